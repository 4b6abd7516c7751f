import PyProof.Rows.All
import Wide.All
import OpenK.AllK
import Wide.FinOn
import Lean
import PyProof.EqAt
import PyProof.EqKinds
import PyProof.TupleCall
import KE.KSortTup
import PyProof.TupleOfGen
import PyProof.ListRange
import PyProof.Rows.ZipGen
import KE.KRevIter
import PyProof.NeKinds
import PyProof.CompUse
import KE.KDictSum
import PyProof.Rows.SortWalk
import PyProof.AttrMissHeap
import KE.KDictOf
import PyProof.StationsW
import PyProof.ExcClass2
import PyProof.ExcBaseAll.ValueError
import OpenK.KOwn
import PyProof.RulesAs
import PyProof.Rows.Catch
import PyProof.ExcAttrAll.ValueError
import KE.KIsAll
import PyProof.NsDelKeeps
import KE.KLam
import KE.KTupSum
import PyProof.EnumStmt
import PyProof.EnumMake
import KE.KItemsList
import PySem.Challenge.RW_boxballs_k74_whole_motley_rows
section
-- CHANGE: your row's module here, as the last of these rows
set_option Elab.async false
set_option linter.all false
set_option maxRecDepth 100000
/-! THE HAND LAYER, for ints, bools, texts, own classes, LISTS and tuples (index, slices, in, append, pop ..), calls, loops. Paste it whole ahead of your own text; what your proof does not reach may be deleted. -/
namespace L2
open PySem PySem.Spec PyProof.Rows

/-- a key: an int or a str -/
abbrev Key := Sum Int Str
def keyIs : Key → Value → Bool
  | .inl k, v => Value.isInt k v
  | .inr x, v => Value.isStrOf x v
def keyH (w : World) : Key → Int
  | .inl k => hashInt k
  | .inr x => hashStr w x
theorem keyIs_shape : ∀ {k : Key} {v : Value}, keyIs k v = true → (∃ i t, k = Sum.inl i ∧ v = Value.int i t) ∨ (∃ x t, k = Sum.inr x ∧ v = Value.str x t)
  | .inl i, v, h => by
    obtain ⟨t, e⟩ := Value.isInt_shape (k := i) (v := v) h
    exact .inl ⟨i, t, rfl, e⟩
  | .inr x, v, h => by
    obtain ⟨t, e⟩ := Value.isStrOf_shape (x := x) (v := v) h
    exact .inr ⟨x, t, rfl, e⟩
theorem keyIs_int (i : Int) (t : Tok) : keyIs (.inl i) (.int i t) = true := by simp [keyIs, Value.isInt]
theorem keyIs_str (x : Str) (t : Tok) : keyIs (.inr x) (.str x t) = true := by simp [keyIs, Value.isStrOf]
theorem key_ll (a b : Int) : decide ((Sum.inl a : Key) = Sum.inl b) = (a == b) := by
  by_cases e : a = b
  · subst e; simp
  · have h : ¬ (Sum.inl a : Key) = Sum.inl b := fun q => e (Sum.inl.inj q)
    rw [decide_eq_false h]
    exact (beq_eq_false_iff_ne.mpr e).symm
theorem key_rr (a b : Str) : decide ((Sum.inr a : Key) = Sum.inr b) = decide (a = b) := by
  by_cases e : a = b
  · subst e; simp
  · have h : ¬ (Sum.inr a : Key) = Sum.inr b := fun q => e (Sum.inr.inj q)
    rw [decide_eq_false h, decide_eq_false e]
theorem key_lr (a : Int) (b : Str) : decide ((Sum.inl a : Key) = Sum.inr b) = false := decide_eq_false (fun q => nomatch q)
theorem key_rl (a : Str) (b : Int) : decide ((Sum.inr a : Key) = Sum.inl b) = false := decide_eq_false (fun q => nomatch q)

def mixKind (prog : Program) (w : World) : PySem.KeyKind prog w Key where
  is := keyIs
  hash := keyH w
  inj := fun v a b ha hb => by
    rcases keyIs_shape ha with ⟨i, t, rfl, rfl⟩ | ⟨x, t, rfl, rfl⟩
    · rcases keyIs_shape hb with ⟨j, u, rfl, e⟩ | ⟨y, u, rfl, e⟩
      · injection e with e1 _; rw [e1]
      · exact nomatch e
    · rcases keyIs_shape hb with ⟨j, u, rfl, e⟩ | ⟨y, u, rfl, e⟩
      · exact nomatch e
      · injection e with e1 _; rw [e1]
  byValue := fun k v h => by
    rcases keyIs_shape h with ⟨i, t, rfl, rfl⟩ | ⟨x, t, rfl, rfl⟩ <;> rfl
  pyHash := fun hv h => by
    rcases keyIs_shape hv with ⟨i, t, rfl, rfl⟩ | ⟨x, t, rfl, rfl⟩
    · exact wpAny_pyHash_int h
    · exact wpAny_pyHash_str h
  eqBool := fun hu hv h => by
    rcases keyIs_shape hu with ⟨i, t, rfl, rfl⟩ | ⟨x, t, rfl, rfl⟩
    · rcases keyIs_shape hv with ⟨j, u, rfl, rfl⟩ | ⟨y, u, rfl, rfl⟩
      · rw [key_ll] at h; exact wpAny_eqBool_int h
      · rw [key_lr] at h; exact SeqAt.EqAt.int_str i t y u _ _ _ _ h
    · rcases keyIs_shape hv with ⟨j, u, rfl, rfl⟩ | ⟨y, u, rfl, rfl⟩
      · rw [key_rl] at h; exact SeqAt.EqAt.str_int x t j u _ _ _ _ h
      · rw [key_rr] at h; exact wpAny_eqBool_str h
  «strs» := fun k x t v h => by
    rcases keyIs_shape h with ⟨i, u, rfl, e⟩ | ⟨y, u, rfl, e⟩
    · exact nomatch e
    · injection e with e1 _
      subst e1
      cases v <;> rfl

theorem mixKind_int (prog : Program) (w : World) (i : Int) (t : Tok) : (mixKind prog w).is (.inl i) (.int i t) = true := keyIs_int i t
theorem mixKind_str (prog : Program) (w : World) (x : Str) (t : Tok) : (mixKind prog w).is (.inr x) (.str x t) = true := keyIs_str x t
end L2

namespace L2
open PySem PySem.Spec PyProof.Rows

/-- a value, without the heap -/
inductive V where
  | non | bl (b : Bool) | int (i : Int) | str (x : Str) | byt (b : Array UInt8) | flt (b : UInt64) | ref (a : Addr) | ty (n : String)
  deriving DecidableEq

def RelV : V → Value → Prop
  | .non, u => u = Value.none
  | .bl b, u => u = Value.bool b
  | .int i, u => ∃ t, u = Value.int i t
  | .str x, u => ∃ t, u = Value.str x t
  | .byt b, u => ∃ t, u = Value.bytes b t
  | .flt b, u => ∃ t, u = Value.float b t
  | .ref a, u => u = Value.ref a
  | .ty n, u => u = Value.type n

abbrev Vals : List V → List Value → Prop := Paired RelV
theorem Vals.length {xs : List V} {us : List Value} (r : Vals xs us) : xs.length = us.length := Paired.length r
theorem Vals.get : ∀ {xs : List V} {us : List Value} {i : Nat} {x : V}, Vals xs us → xs[i]? = some x → ∃ u, us[i]? = some u ∧ RelV x u
  | _, _, _, _, .nil, e => by simp at e
  | _, _, 0, _, .cons r _, e => by simp at e; subst e; exact ⟨_, rfl, r⟩
  | _, _, i + 1, x, .cons _ t, e => by
    obtain ⟨u, h1, h2⟩ := Vals.get (i := i) (x := x) t (by simpa using e)
    exact ⟨u, by simpa using h1, h2⟩
theorem Vals.set {x : V} {u : Value} (r : RelV x u) : ∀ {xs : List V} {us : List Value} (i : Nat), Vals xs us → Vals (xs.set i x) (us.set i u)
  | _, _, _, .nil => .nil
  | _, _, 0, .cons _ t => .cons r t
  | _, _, i + 1, .cons q t => .cons q (Vals.set r i t)
theorem Vals.append : ∀ {xs ys : List V} {us ws : List Value}, Vals xs us → Vals ys ws → Vals (xs ++ ys) (us ++ ws)
  | _, _, _, _, .nil, s => s
  | _, _, _, _, .cons r t, s => .cons r (Vals.append t s)
theorem Vals.take : ∀ {xs : List V} {us : List Value} (n : Nat), Vals xs us → Vals (xs.take n) (us.take n)
  | _, _, 0, _ => .nil
  | _, _, _ + 1, .nil => .nil
  | _, _, n + 1, .cons r t => .cons r (Vals.take n t)
theorem Vals.drop : ∀ {xs : List V} {us : List Value} (n : Nat), Vals xs us → Vals (xs.drop n) (us.drop n)
  | _, _, 0, r => r
  | _, _, _ + 1, .nil => .nil
  | _, _, n + 1, .cons _ t => Vals.drop n t
theorem Vals.none_of : ∀ {xs : List V} {us : List Value} {i : Nat}, Vals xs us → xs[i]? = none → us[i]? = none := fun {xs us i} r e => by
  have h1 := r.length
  have h2 : xs.length ≤ i := List.getElem?_eq_none_iff.mp e
  exact List.getElem?_eq_none_iff.mpr (by omega)

def RelO : Option V → Option Value → Prop
  | some v, some u => RelV v u
  | none, none => True
  | _, _ => False
def KV {κ : Type} : List (κ × V) → List (κ × Value) → Prop := Paired fun (p : κ × V) (q : κ × Value) => p.1 = q.1 ∧ RelV p.2 q.2

/-- a key of a dict (00_mix): an int or a text -/
def kV : Key → V
  | .inl i => .int i
  | .inr x => .str x

/-- what stands at a tracked address -/
inductive HO where
  /-- a list -/
  | lst (xs : List V)
  /-- a tuple (never changes) -/
  | tup (xs : List V)
  /-- a dict whose keys are ints and texts; one whose keys are tuples of ints and texts (the empty one is both) -/
  | dK (kvs : List (Key × V)) | dT (kvs : List (List Key × V))
  /-- a set of ints: its members, its size -/
  | set (S : Int → Bool) (n : Nat)
  /-- an instance of the class at C, its dict at dx, its attributes -/
  | ins (C dx : Addr) (fs : List (Str × V))
  /-- the dict of the instance at x -/
  | own (x : Addr)
  /-- the dict of an exception -/
  | xd (fs : List (Str × V))
  /-- a bound method, f of x -/
  | met (f x : Addr)
  /-- a range object lo, lo + 1, .. below hi -/
  | rng (lo hi : Int)
  /-- a thing that is known to the object (the script; a dict while a loop walks it): read, never written while it is so -/
  | frz (o : Obj) (u : HO)
  /-- a code object's table -/
  | tbl (ps : Array Value)
  /-- any other thing, by what is true of its one object (a def of one's own: SetO a S n := HO.ext fun h => ..) -/
  | ext (φ : Heap → Prop)

abbrev Hp := Addr → Option HO
def upd (H : Hp) (a : Addr) (o : HO) : Hp := fun b => if b = a then some o else H b
theorem upd_same {H : Hp} {a : Addr} {o : HO} : upd H a o a = some o := by unfold upd; rw [if_pos rfl]
theorem upd_ne {H : Hp} {a b : Addr} {o : HO} (h : b ≠ a) : upd H a o b = H b := by unfold upd; rw [if_neg h]
/-- two objects of different content stand apart -/
theorem ne_of {H : Hp} {a b : Addr} {o u : HO} (h : H a = some o) (h' : H b = some u) (d : o ≠ u) : a ≠ b := by
  intro e; subst e; rw [h] at h'; exact d (Option.some.inj h')
theorem ne_of_none {H : Hp} {a b : Addr} {o : HO} (h : H a = some o) (h' : H b = none) : a ≠ b := by
  intro e; subst e; rw [h] at h'; cases h'

section
variable (P : Program) (w : World)
def ObjOk (H : Hp) (h : Heap) (a : Addr) : HO → Prop
  | .lst xs => xs.length ≤ sizeLine ∧ ∃ (its : List Value) (n : Nat), Vals xs its ∧ h.get? a = some { cls := .type "list", data := .seq its.toArray n }
  | .tup xs => xs.length ≤ sizeLine ∧ ∃ its : List Value, Vals xs its ∧ IsTup h a its.toArray
  | .dK kvs => kvs.length ≤ sizeLine ∧ (a == sysModules) = false ∧ ∃ vs, KV kvs vs ∧ h.DictOf (mixKind P w) a vs
  | .dT kvs => kvs.length ≤ sizeLine ∧ (a == sysModules) = false ∧ ∃ xs : List (List Key × Addr × Value),
      Paired (fun (p : List Key × V) (q : List Key × Addr × Value) => p.1 = q.1 ∧ H q.2.1 = some (.tup (p.1.map kV)) ∧ RelV p.2 q.2.2) kvs xs ∧
      ∃ o es ep, h.get? a = some o ∧ o.ExactDict ∧ o.data = .dict es ep ∧ es.toList = xs.map (entryOfKey (tupleKind (mixKind P w))) ∧ (xs.map (·.1)).Nodup
  | .set S n => h.SetOf (intKind P w) a S n
  | .ins C dx fs => H dx = some (.own a) ∧ fs.length ≤ 1000 ∧ dx ≠ a ∧ h.get? a = some (PySem.W.instObj C dx) ∧
      ∃ mA, h.Ns1 dx mA ∧ (∀ f, RelO (fs.lookup f) (mA f)) ∧ PySem.Within mA (fs.map (·.1))
  | .own _ => ∃ o, h.get? a = some o
  | .xd fs => ∃ mA, h.Ns1 a mA ∧ ∀ f, RelO (fs.lookup f) (mA f)
  | .rng lo hi => ∃ t u v, h.get? a = some { cls := .type "range", data := .fields #[.int lo t, .int hi u, .int 1 v] }
  | .frz o u => h.get? a = some o ∧ ObjOk H h a u
  | .tbl ps => h.get? a = some { cls := .none, data := .fields ps }
  | .met f x => h.get? a = some (PySem.W.methodObj (.ref f) (.ref x))
  | .ext φ => φ h ∧ (∃ o, h.get? a = some o) ∧ ∀ h1 h2 : Heap, φ h1 → (∀ o, h1.get? a = some o → h2.get? a = some o) → φ h2
/-- the abstract heap is held -/
def HOk (H : Hp) (h : Heap) : Prop := ∀ a o, H a = some o → ObjOk P w H h a o
end

section
variable {P : Program} {w : World} {H H' : Hp} {h h' : Heap} {a : Addr} {o : HO}
theorem ObjOk.lt (x : ObjOk P w H h a o) : a < h.objs.size := by
  cases o with
  | lst xs => obtain ⟨_, _, _, _, e⟩ := x; exact Heap.lt_size e
  | tup xs => obtain ⟨_, _, _, p⟩ := x; exact p.lt
  | dK kvs => obtain ⟨_, _, _, _, o, _, _, e, _⟩ := x; exact Heap.lt_size e
  | dT kvs => obtain ⟨_, _, _, _, o, _, _, e, _⟩ := x; exact Heap.lt_size e
  | set S n => obtain ⟨o, _, _, _, e, _⟩ := x; exact Heap.lt_size e
  | ins C dx fs => obtain ⟨_, _, _, e, _⟩ := x; exact Heap.lt_size e
  | own y => obtain ⟨_, e⟩ := x; exact Heap.lt_size e
  | xd fs => obtain ⟨_, ⟨_, _, _, e, _⟩, _⟩ := x; exact Heap.lt_size e
  | rng lo hi => obtain ⟨_, _, _, e⟩ := x; exact Heap.lt_size e
  | frz ob u => obtain ⟨e, _⟩ := x; exact Heap.lt_size e
  | tbl ps => exact Heap.lt_size (show h.get? a = some _ from x)
  | met f y => exact Heap.lt_size (show h.get? a = some _ from x)
  | ext φ => obtain ⟨_, ⟨_, e⟩, _⟩ := x; exact Heap.lt_size e
theorem Paired.mapP {α β : Type} {F G : α → β → Prop} : ∀ {l₁ : List α} {l₂ : List β}, Paired F l₁ l₂ → (∀ a b, F a b → G a b) → Paired G l₁ l₂
  | _, _, .nil, _ => .nil
  | _, _, .cons r t, f => .cons (f _ _ r) (Paired.mapP t f)
/-- what an object's description leans on: its own object, its own dict, the tuples -/
theorem ObjOk.stay (x : ObjOk P w H h a o) (k : ∀ b u, (b = a ∨ H b = some (.own a)) → h.get? b = some u → h'.get? b = some u)
    (ho : ∀ b, H b = some (.own a) → H' b = some (.own a)) (ht : ∀ b xs, H b = some (.tup xs) → H' b = some (.tup xs)) : ObjOk P w H' h' a o := by
  induction o with
  | lst xs => obtain ⟨z, its, n, r, e⟩ := x; exact ⟨z, its, n, r, k _ _ (.inl rfl) e⟩
  | tup xs => obtain ⟨z, its, r, ob, e, c⟩ := x; exact ⟨z, its, r, ob, k _ _ (.inl rfl) e, c⟩
  | dK kvs => obtain ⟨z, y, vs, r, ob, es, ep, e, c⟩ := x; exact ⟨z, y, vs, r, ob, es, ep, k _ _ (.inl rfl) e, c⟩
  | dT kvs =>
    obtain ⟨z, y, xs, r, ob, es, ep, e, c⟩ := x
    exact ⟨z, y, xs, Paired.mapP r fun p q z => ⟨z.1, ht _ _ z.2.1, z.2.2⟩, ob, es, ep, k _ _ (.inl rfl) e, c⟩
  | set S n => obtain ⟨ob, es, ep, t, e, c⟩ := x; exact ⟨ob, es, ep, t, k _ _ (.inl rfl) e, c⟩
  | ins C dx fs =>
    obtain ⟨d, z, ne, e, mA, ⟨od, es, ep, e2, c⟩, r⟩ := x
    exact ⟨ho _ d, z, ne, k _ _ (.inl rfl) e, mA, ⟨od, es, ep, k _ _ (.inr d) e2, c⟩, r⟩
  | own y => obtain ⟨ob, e⟩ := x; exact ⟨ob, k _ _ (.inl rfl) e⟩
  | xd fs => obtain ⟨mA, ⟨od, es, ep, e, c⟩, r⟩ := x; exact ⟨mA, ⟨od, es, ep, k _ _ (.inl rfl) e, c⟩, r⟩
  | rng lo hi => obtain ⟨t, u, v, e⟩ := x; exact ⟨t, u, v, k _ _ (.inl rfl) e⟩
  | frz ob u ih => obtain ⟨e, q⟩ := x; exact ⟨k _ _ (.inl rfl) e, ih q⟩
  | tbl ps =>
    have e : h.get? a = some { cls := .none, data := .fields ps } := x
    show h'.get? a = some { cls := .none, data := .fields ps }
    exact k a _ (.inl rfl) e
  | met f y =>
    have e : h.get? a = some (PySem.W.methodObj (.ref f) (.ref y)) := x
    show h'.get? a = some (PySem.W.methodObj (.ref f) (.ref y))
    exact k a _ (.inl rfl) e
  | ext φ => obtain ⟨p, ⟨o, e⟩, st⟩ := x; exact ⟨st _ _ p fun o q => k _ _ (.inl rfl) q, ⟨o, k _ _ (.inl rfl) e⟩, st⟩
theorem HOk.lt (x : HOk P w H h) (e : H a = some o) : a < h.objs.size := (x a o e).lt
theorem HOk.fresh (x : HOk P w H h) (e : h.objs.size ≤ a) : H a = none := by
  cases q : H a with
  | none => rfl
  | some u => exact absurd (Nat.lt_of_lt_of_le (x.lt q) e) (Nat.lt_irrefl _)
/-- every object of the heap is kept -/
theorem HOk.kept (x : HOk P w H h) (k : ∀ b u, h.get? b = some u → h'.get? b = some u) : HOk P w H h' := fun a o e =>
  (x a o e).stay (fun b u _ q => k b u q) (fun _ q => q) fun _ _ q => q
/-- a new object is laid and tracked -/
theorem HOk.laid (x : HOk P w H h) (k : ∀ b u, h.get? b = some u → h'.get? b = some u) (hp : h.objs.size ≤ a) (new : ObjOk P w (upd H a o) h' a o) : HOk P w (upd H a o) h' := fun b u e => by
  have hn := x.fresh hp
  by_cases hb : b = a
  · subst hb; rw [upd_same] at e; cases e; exact new
  · rw [upd_ne hb] at e
    exact (x b u e).stay (fun c v _ q => k c v q) (fun c q => by rw [upd_ne (ne_of_none q hn)]; exact q) fun c xs q => by rw [upd_ne (ne_of_none q hn)]; exact q
end

/-- what may be read as u: it is u, or a known u -/
def Rd (H : Hp) (a : Addr) (u : HO) : Prop := H a = some u ∨ ∃ o, H a = some (.frz o u)
theorem Rd.of {H : Hp} {a : Addr} {u : HO} (h : H a = some u) : Rd H a u := .inl h
theorem Rd.ok {P : Program} {w : World} {H : Hp} {h : Heap} {a : Addr} {u : HO} (r : Rd H a u) (x : HOk P w H h) : ObjOk P w H h a u := by
  rcases r with r | ⟨o, r⟩
  · exact x a u r
  · obtain ⟨_, q⟩ := x a _ r
    exact q
/-- what may be written -/
def Mut : Option HO → Prop
  | some (.lst _) => True
  | some (.dK _) => True
  | some (.dT _) => True
  | some (.set _ _) => True
  | some (.ins _ _ _) => True
  | some (.ext _) => True
  | _ => False
section
variable {P : Program} {w : World} {H : Hp} {h h' : Heap} {x e : Addr} {o' : HO}
/-- the object at e is changed: x itself, or the dict of the instance x -/
theorem HOk.write (ok : HOk P w H h) (mu : Mut (H x)) (he : e = x ∨ H e = some (.own x)) (k : ∀ b u, b ≠ e → h.get? b = some u → h'.get? b = some u) (heo : ∃ u, h'.get? e = some u)
    (new : ObjOk P w (upd H x o') h' x o') : HOk P w (upd H x o') h' := fun b u q => by
  have nown : ∀ c y, H c = some (.own y) → c ≠ x := fun c y r z => by subst z; rw [r] at mu; exact mu
  have ntup : ∀ c xs, H c = some (.tup xs) → c ≠ x := fun c xs r z => by subst z; rw [r] at mu; exact mu
  by_cases hb : b = x
  · subst hb; rw [upd_same] at q; cases q; exact new
  · rw [upd_ne hb] at q
    by_cases hbe : b = e
    · have q' : H b = some (.own x) := by
        rcases he with z | z
        · exact absurd (hbe.trans z) hb
        · rw [hbe]; exact z
      rw [q] at q'; cases q'
      obtain ⟨v, hv⟩ := heo
      exact ⟨v, by rw [hbe]; exact hv⟩
    · refine (ok b u q).stay (fun c v hc r => k c v ?_ r) (fun c r => by rw [upd_ne (nown c b r)]; exact r) fun c xs r => by rw [upd_ne (ntup c xs r)]; exact r
      rcases hc with rfl | hc
      · exact hbe
      · rintro rfl
        rcases he with z | z
        · exact nown c b hc z
        · rw [hc] at z; cases z; exact hb rfl
end

/-! ### kept unless tracked; of the frames at fs (the callers') the slots may change (an exception that passes writes there); of the records at ex (iterators) nothing is said -/
structure Un (fs ex : List Addr) (H H' : Hp) (h h' : Heap) : Prop where
  keep : ∀ b o, h.get? b = some o → H b = none → b ∉ fs → b ∉ ex → h'.get? b = some o
  slot : ∀ b o, h.get? b = some o → H b = none → b ∈ fs → b ∉ ex → ∃ sl, h'.get? b = some { o with slots := sl }
  free : ∀ b o, h.get? b = some o → H b = none → b ∉ ex → H' b = none
  there : ∀ b o, h.get? b = some o → b ∉ ex → ∃ o', h'.get? b = some o'
  tups : ∀ b xs, H b = some (.tup xs) → H' b = some (.tup xs)
  frzs : ∀ b o u, H b = some (.frz o u) → H' b = some (.frz o u)
  tbls : ∀ b ps, H b = some (.tbl ps) → ∃ more, H' b = some (.tbl (ps ++ more))
section
variable {fs fs' ex ex' : List Addr} {H H1 H2 : Hp} {h h1 h2 h' : Heap} {a x e : Addr} {o : HO}
theorem Un.any (u : Un fs ex H H1 h h1) {b : Addr} {ob : Obj} (q : h.get? b = some ob) (n : H b = none) (hx : b ∉ ex) : ∃ sl, h1.get? b = some { ob with slots := sl } := by
  by_cases hb : b ∈ fs
  · exact u.slot b ob q n hb hx
  · exact ⟨ob.slots, u.keep b ob q n hb hx⟩
theorem Un.trans (a : Un fs ex H H1 h h1) (b : Un fs ex H1 H2 h1 h2) : Un fs ex H H2 h h2 where
  keep := fun c ob q n hc hx => b.keep c ob (a.keep c ob q n hc hx) (a.free c ob q n hx) hc hx
  slot := fun c ob q n hc hx => by
    obtain ⟨sl, e1⟩ := a.slot c ob q n hc hx
    obtain ⟨sl', e2⟩ := b.slot c _ e1 (a.free c ob q n hx) hc hx
    exact ⟨sl', e2⟩
  free := fun c ob q n hx => by
    obtain ⟨o', e1⟩ := a.there c ob q hx
    exact b.free c o' e1 (a.free c ob q n hx) hx
  there := fun c ob q hx => by
    obtain ⟨o', e1⟩ := a.there c ob q hx
    exact b.there c o' e1 hx
  tups := fun c xs q => b.tups c xs (a.tups c xs q)
  frzs := fun c ob xs q => b.frzs c ob xs (a.frzs c ob xs q)
  tbls := fun c ps q => by
    obtain ⟨m1, e1⟩ := a.tbls c ps q
    obtain ⟨m2, e2⟩ := b.tbls c _ e1
    exact ⟨m1 ++ m2, by rw [e2, Array.append_assoc]⟩
theorem Un.kept (k : ∀ b u, h.get? b = some u → h'.get? b = some u) : Un fs ex H H h h' :=
  ⟨fun b ob q _ _ _ => k b ob q, fun b ob q _ _ _ => ⟨ob.slots, k b ob q⟩, fun _ _ _ n _ => n, fun b ob q _ => ⟨ob, k b ob q⟩, fun _ _ q => q, fun _ _ _ q => q, fun _ ps q => ⟨#[], by rw [q]; simp⟩⟩
theorem Un.refl : Un fs ex H H h h := Un.kept fun _ _ q => q
theorem Un.laid (k : ∀ b u, h.get? b = some u → h'.get? b = some u) (hp : h.objs.size ≤ a) (hn : H a = none) : Un fs ex H (upd H a o) h h' where
  keep := fun b u q _ _ _ => k b u q
  slot := fun b u q _ _ _ => ⟨u.slots, k b u q⟩
  free := fun b u q n _ => by rw [upd_ne (Nat.ne_of_lt (Nat.lt_of_lt_of_le (Heap.lt_size q) hp))]; exact n
  there := fun b u q _ => ⟨u, k b u q⟩
  tups := fun b xs q => by rw [upd_ne (ne_of_none q hn)]; exact q
  frzs := fun b u xs q => by rw [upd_ne (ne_of_none q hn)]; exact q
  tbls := fun b ps q => ⟨#[], by rw [upd_ne (ne_of_none q hn), q]; simp⟩
theorem Un.write (mu : Mut (H x)) (he : e = x ∨ H e = some (.own x)) (k : ∀ b u, b ≠ e → h.get? b = some u → h'.get? b = some u) (heo : ∃ u, h'.get? e = some u) : Un fs ex H (upd H x o) h h' := by
  have hx : ∀ b, H b = none → b ≠ x := fun b n z => by subst z; rw [n] at mu; exact mu
  have hb : ∀ b, H b = none → b ≠ e := fun b n z => by
    subst z
    rcases he with r | r
    · exact hx b n r
    · rw [n] at r; cases r
  have hm : ∀ b u, H b = some u → ¬ Mut (some u) → b ≠ x := fun b u q nm z => by subst z; rw [q] at mu; exact nm mu
  refine ⟨fun b u q n _ _ => k b u (hb b n) q, fun b u q n _ _ => ⟨u.slots, k b u (hb b n) q⟩, fun b u q n _ => by rw [upd_ne (hx b n)]; exact n, fun b u q _ => ?_,
    fun b xs q => by rw [upd_ne (hm b _ q fun z => z)]; exact q, fun b u xs q => by rw [upd_ne (hm b _ q fun z => z)]; exact q, fun b ps q => ⟨#[], by rw [upd_ne (hm b _ q fun z => z), q]; simp⟩⟩
  by_cases hbe : b = e
  · subst hbe; exact heo
  · exact ⟨u, k b u hbe q⟩
theorem Un.mono (u : Un fs ex H H1 h h1) (hs : ∀ b ∈ fs, b ∈ fs') (hx : ∀ b ∈ ex, b ∈ ex') : Un fs' ex' H H1 h h1 :=
  ⟨fun b ob q n hb he => u.keep b ob q n (fun z => hb (hs b z)) fun z => he (hx b z), fun _ _ q n _ he => u.any q n fun z => he (hx _ z), fun b ob q n he => u.free b ob q n fun z => he (hx b z), fun b ob q he => u.there b ob q fun z => he (hx b z), u.tups, u.frzs, u.tbls⟩
end

/-! ### the heap without what is tracked -/
def trk (h : Heap) (H : Hp) : List Addr := (List.range h.objs.size).filter fun a => (H a).isSome
def hidT (h : Heap) (H : Hp) : Heap := PySem.W.hideAll h (trk h H)
theorem hidT_size (h : Heap) (H : Hp) : (hidT h H).objs.size = h.objs.size := PySem.W.hideAll_size _ _
theorem hidT_get {h : Heap} {H : Hp} {b : Addr} {o : Obj} (e : h.get? b = some o) (n : H b = none) : (hidT h H).get? b = some o :=
  PySem.W.hideAll_get _ e fun hm => by
    have q : (H b).isSome = true := (List.mem_filter.mp hm).2
    rw [n] at q; simp at q
theorem of_hidT {h : Heap} {H : Hp} {b : Addr} {o : Obj} (e : (hidT h H).get? b = some o) : h.get? b = some o ∧ H b = none := by
  have e' : h.get? b = some o := PySem.W.of_hideAll (trk h H) e
  refine ⟨e', ?_⟩
  cases q : H b with
  | none => rfl
  | some x =>
    have hm : b ∈ trk h H := List.mem_filter.mpr ⟨List.mem_range.mpr (Heap.lt_size e'), by simp [q]⟩
    have z : (hidT h H).get? b = none := PySem.W.hideAll_none (trk h H) hm
    rw [z] at e; cases e

/-! ### OpenK's ledger, filled with every new object but one -/
def allNews (g h : Heap) (L : Addr) : List (Addr × Obj) := (List.range h.objs.size).filterMap fun a => if a = L ∨ (g.get? a).isSome = true then none else (h.get? a).map fun o => (a, o)
def rest (g h : Heap) (L d : Addr) : List (Addr × Obj) := (allNews g h L).filter fun p => decide (p.1 ≠ d)
end L2

namespace L2
open PySem PySem.Spec PyProof.Rows

/-- the module's facts, over the base: the heap at the law's entry without what is tracked there -/
structure Mod (K : PySem.W.Frag) (mg : Str → Option Value) (base : Heap) : Prop where
  kin : K.In base
  glob : base.Ns mainGlobals mg
  blt : ∃ mb, base.Ns builtinsNs mb ∧ ∀ x : Str, x ≠ "__name__" → mb x = bootBuiltins x
  nolimit : base.NoLimit

/-- the context: a def's body (or a comprehension's block) running. base: fixed through the whole law; s₀, H₀: the entry; outer: the frames whose slots others may change (a def's callers); stack: all frames that run;
   ex: iterators that were made ahead of the entry and are walked here (a comprehension's); fn: the names whose cells were made at the entry (a def: all; a comprehension's block: its own); calm: not within an except suite; pn: pins that every state bears; xe: what is wanted of an exception that leaves the code -/
structure Cx where
  prog : Program
  w : World
  K : PySem.W.Frag
  mg : Str → Option Value
  base : Heap
  A : Around
  N : List Str
  s₀ : Shared
  H₀ : Hp
  env : Env
  outer : List Env
  stack : List Env
  ex : List Addr
  fn : Str → Bool
  calm : Bool
  pn : List (Addr × Obj)
  xe : Value → Shared → Prop
/-- the callers' frames -/
def frs (l : List Env) : List Addr := l.filterMap (·.frame)
abbrev Cx.fs (X : Cx) : List Addr := frs X.outer

def Vis (sc : Scope) (x : Str) : Prop := sc.names.lookup x = some .local ∨ sc.names.lookup x = some .cell ∨ sc.names.lookup x = some .free
def Loc (sc : Scope) (x : Str) : Prop := sc.names.lookup x = some .local ∨ sc.names.lookup x = some .cell
def Look (env : Env) (h : Heap) (m : Str → Option Value) (x : Str) (u : Value) : Prop :=
  (env.kindOf x = some .local ∧ m x = some u) ∨ ((env.kindOf x = some .cell ∨ env.kindOf x = some .free) ∧ ∃ c, env.cells.lookup x = some c ∧ h.IsCell c (some u))

structure Cx.Ok (X : Cx) : Prop where
  mod : Mod X.K X.mg X.base
  kind : X.env.scope.kind = .function
  glob : X.env.globals = mainGlobals
  blt : X.env.builtins = builtinsNs
  above : X.s₀.heap.objs.size ≤ X.env.locals
  inj : ∀ x y c, X.env.cells.lookup x = some c → X.env.cells.lookup y = some c → x = y
  has : ∀ x, (X.env.kindOf x = some .cell ∨ X.env.kindOf x = some .free) → ∃ c, X.env.cells.lookup x = some c
  cab : ∀ x c, X.fn x = true → X.env.cells.lookup x = some c → X.s₀.heap.objs.size ≤ c
  hd : X.calm = true → X.A.handled = none
  frames : X.A.frames = some X.stack
  stk : X.stack = X.outer ∨ (X.stack = X.env :: X.outer ∧ X.env.frame = some X.env.locals)
  exf : ∀ b ∈ X.ex, b ≠ X.env.locals ∧ ∀ x c, X.env.cells.lookup x = some c → c ≠ b
  bs : ∀ b o, X.base.get? b = some o → X.s₀.heap.get? b = some o ∧ X.H₀ b = none
  bsz : X.base.objs.size ≤ X.s₀.heap.objs.size
  noex : ∀ b o, X.base.get? b = some o → b ∉ X.ex
  exfs : ∀ b ∈ X.ex, b ∉ X.fs
  funs : X.s₀.heap.FunFrames X.base X.outer
  frf : ∀ b ∈ X.fs, X.H₀ b = none

structure Inv (X : Cx) (pins : List (Addr × Obj)) (σ : List (Option V)) (H : Hp) (s : Shared) : Prop where
  ok : X.Ok
  os : s.os = X.s₀.os
  bare : AllBare s.gens
  base : Un X.fs X.ex X.H₀ H X.s₀.heap s.heap
  loc : ∃ m, s.heap.Ns X.env.locals m ∧ ∀ (i : Nat) (x : Str) (v : V), X.N[i]? = some x → σ[i]? = some (some v) → Vis X.env.scope x → ∃ u, RelV v u ∧ Look X.env s.heap m x u
  cell : ∀ x c, X.env.cells.lookup x = some c → ∃ v, s.heap.IsCell c v
  free : H X.env.locals = none
  freeC : ∀ x c, X.env.cells.lookup x = some c → H c = none
  pin : ∀ p ∈ X.pn ++ pins, s.heap.get? p.1 = some p.2 ∧ H p.1 = none ∧ p.1 ≠ X.env.locals ∧ p.1 ∉ X.fs ∧ ∀ v, p.2.data ≠ .cell v
  hok : HOk X.prog X.w H s.heap
  len : σ.length = X.N.length

section
variable {X : Cx} {pins : List (Addr × Obj)} {σ : List (Option V)} {H H' : Hp} {s : Shared} {h' : Heap}

theorem Cx.Ok.nofr (ok : X.Ok) {b : Addr} {o : Obj} (e : X.base.get? b = some o) : b ∉ X.fs := fun hb => by
  have := (ok.funs.mem hb).1
  rw [e] at this; cases this
theorem Inv.bs (I : Inv X pins σ H s) : ∀ b o, X.base.get? b = some o → s.heap.get? b = some o ∧ H b = none := fun b o e =>
  ⟨I.base.keep b o (I.ok.bs b o e).1 (I.ok.bs b o e).2 (I.ok.nofr e) (I.ok.noex b o e), I.base.free b o (I.ok.bs b o e).1 (I.ok.bs b o e).2 (I.ok.noex b o e)⟩
theorem Inv.bk (I : Inv X pins σ H s) : ∀ b o, X.base.get? b = some o → s.heap.get? b = some o := fun b o e => (I.bs b o e).1
theorem Inv.mod (I : Inv X pins σ H s) : Mod X.K X.mg X.base := I.ok.mod
theorem Inv.kIn (I : Inv X pins σ H s) : X.K.In s.heap := I.ok.mod.kin.keeps I.bk
theorem Inv.nolimit (I : Inv X pins σ H s) : s.heap.NoLimit := I.ok.mod.nolimit.keeps I.bk
/-- the frame over the base: for OpenK's rules (K.In X.base is I.mod.kin) -/
theorem Inv.fr (I : Inv X pins σ H s) : ∃ m, Fr X.base X.env.locals s.heap m :=
  let ⟨m, hn, _⟩ := I.loc
  ⟨m, hn, I.bk, Nat.le_trans I.ok.bsz I.ok.above⟩
theorem Inv.lt (I : Inv X pins σ H s) : X.env.locals < s.heap.objs.size := let ⟨_, hn, _⟩ := I.loc; hn.lt
theorem Inv.sz (I : Inv X pins σ H s) : X.s₀.heap.objs.size ≤ s.heap.objs.size := Nat.le_trans I.ok.above (Nat.le_of_lt I.lt)
theorem Inv.nofs (I : Inv X pins σ H s) {a : Addr} (h : s.heap.objs.size ≤ a) : a ∉ X.fs := fun hb => by
  obtain ⟨_, o, ho, _⟩ := I.ok.funs.mem hb
  exact absurd (Nat.lt_of_lt_of_le (Heap.lt_size ho) (Nat.le_trans I.sz h)) (Nat.lt_irrefl _)
theorem Inv.cne (I : Inv X pins σ H s) : ∀ x c, X.env.cells.lookup x = some c → c ≠ X.env.locals := fun x c e z => by
  obtain ⟨v, o, ho, hd⟩ := I.cell x c e
  obtain ⟨m, ⟨o', es, ep, ho', hd', _⟩, _⟩ := I.loc
  rw [z, ho'] at ho; cases ho; rw [hd'] at hd; cases hd
theorem Inv.funs (I : Inv X pins σ H s) : s.heap.FunFrames X.base X.outer := by
  have all : ∀ (l : List Env), (∀ b ∈ frs l, b ∈ X.fs) → X.s₀.heap.FunFrames X.base l → s.heap.FunFrames X.base l := by
    intro l
    induction l with
    | nil => intro _ _; trivial
    | cons env r ih =>
      intro hs hl
      obtain ⟨hk, ⟨L, o, hf, hn, ho, hd⟩, hr⟩ := hl
      have hL : L ∈ X.fs := hs L (by unfold frs; rw [List.filterMap_cons, hf]; exact List.mem_cons_self)
      obtain ⟨sl, e⟩ := I.base.slot L o ho (I.ok.frf L hL) hL fun z => I.ok.exfs L z hL
      exact ⟨hk, ⟨L, _, hf, hn, e, hd⟩, ih (fun b hb => hs b (by unfold frs; rw [List.filterMap_cons, hf]; exact List.mem_cons_of_mem _ hb)) hr⟩
  exact all X.outer (fun _ hb => hb) I.ok.funs

/-- the frames that run, for a call -/
theorem Inv.stack (I : Inv X pins σ H s) : s.heap.FunFrames X.base X.stack := by
  rcases I.ok.stk with e | ⟨e, hf⟩
  · rw [e]; exact I.funs
  · rw [e]
    obtain ⟨m, hn, _⟩ := I.loc
    refine .cons (by rw [I.ok.kind]; decide) hf hn ?_ I.funs
    exact Heap.get?_none_of_le (Nat.le_trans I.ok.bsz I.ok.above)
theorem Inv.stkSub (I : Inv X pins σ H s) : ∀ b ∈ frs X.stack, b ∈ X.env.locals :: X.fs := fun b hb => by
  rcases I.ok.stk with e | ⟨e, hf⟩
  · rw [e] at hb; exact List.mem_cons_of_mem _ hb
  · rw [e] at hb
    unfold frs at hb
    rw [List.filterMap_cons, hf] at hb
    exact hb
theorem Inv.stkFree (I : Inv X pins σ H s) : ∀ b ∈ frs X.stack, H b = none := fun b hb => by
  rcases List.mem_cons.mp (I.stkSub b hb) with e | hb
  · rw [e]; exact I.free
  · obtain ⟨_, o, ho, _⟩ := I.ok.funs.mem hb
    exact I.base.free b o ho (I.ok.frf b hb) fun z => I.ok.exfs b z hb

/-- THE STEP: the untracked objects but the frame and the records at ch are kept (the callers' frames up to slots), the frame's map is kept, the new abstract heap is held -/
theorem Inv.step {g' : Array GenState} {t' : Nat} {d' : Drawn} {ch : List Addr} (I : Inv X pins σ H s)
    (hch : ∀ b ∈ ch, (b ∈ X.ex ∨ X.s₀.heap.objs.size ≤ b) ∧ b ≠ X.env.locals ∧ (∀ x c, X.env.cells.lookup x = some c → c ≠ b) ∧ ∀ p ∈ X.pn ++ pins, p.1 ≠ b)
    (keep : ∀ b o, b ≠ X.env.locals → b ∉ X.fs → b ∉ ch → s.heap.get? b = some o → H b = none → h'.get? b = some o)
    (slot : ∀ b o, b ≠ X.env.locals → b ∈ X.fs → b ∉ ch → s.heap.get? b = some o → H b = none → ∃ sl, h'.get? b = some { o with slots := sl }) (free : ∀ b o, b ∉ ch → s.heap.get? b = some o → H b = none → H' b = none)
    (there : ∀ b o, b ∉ ch → s.heap.get? b = some o → ∃ o', h'.get? b = some o')
    (tups : ∀ b xs, H b = some (.tup xs) → H' b = some (.tup xs)) (frzs : ∀ b o u, H b = some (.frz o u) → H' b = some (.frz o u)) (tbls : ∀ b ps, H b = some (.tbl ps) → ∃ more, H' b = some (.tbl (ps ++ more)))
    (ns : ∀ m, s.heap.Ns X.env.locals m → h'.Ns X.env.locals m) (hok : HOk X.prog X.w H' h') (hg : AllBare g') :
    Inv X pins σ H' { s with heap := h', gens := g', drawn := d', toks := t' } := by
  have neL : ∀ b o, X.s₀.heap.get? b = some o → b ≠ X.env.locals := fun b o e => Nat.ne_of_lt (Nat.lt_of_lt_of_le (Heap.lt_size e) I.ok.above)
  have neC : ∀ b o, X.s₀.heap.get? b = some o → b ∉ X.ex → b ∉ ch := fun b o e hx hb => by
    rcases (hch b hb).1 with z | z
    · exact hx z
    · exact absurd (Nat.lt_of_lt_of_le (Heap.lt_size e) z) (Nat.lt_irrefl _)
  have cellK : ∀ x c, X.env.cells.lookup x = some c → ∀ v, s.heap.IsCell c v → h'.IsCell c v := fun x c e v ⟨o, ho, hd⟩ => by
    have nch : c ∉ ch := fun z => (hch c z).2.2.1 x c e rfl
    by_cases hc : c ∈ X.fs
    · obtain ⟨sl, q⟩ := slot c o (I.cne x c e) hc nch ho (I.freeC x c e)
      exact ⟨_, q, hd⟩
    · exact ⟨o, keep c o (I.cne x c e) hc nch ho (I.freeC x c e), hd⟩
  refine ⟨I.ok, I.os, hg, ⟨fun b o e n hb hx => ?_, fun b o e n hb hx => ?_, fun b o e n hx => ?_, fun b o e hx => ?_, fun b xs e => tups b xs (I.base.tups b xs e), fun b o xs e => frzs b o xs (I.base.frzs b o xs e), fun b ps e => ?_⟩, ?_, fun x c e => ?_, ?_, fun x c e => ?_, fun p hp => ?_, hok, I.len⟩
  · exact keep b o (neL b o e) hb (neC b o e hx) (I.base.keep b o e n hb hx) (I.base.free b o e n hx)
  · obtain ⟨sl, e1⟩ := I.base.slot b o e n hb hx
    obtain ⟨sl', e2⟩ := slot b _ (neL b o e) hb (neC b o e hx) e1 (I.base.free b o e n hx)
    exact ⟨sl', e2⟩
  · obtain ⟨o', e1⟩ := I.base.there b o e hx
    exact free b o' (neC b o e hx) e1 (I.base.free b o e n hx)
  · obtain ⟨o', e1⟩ := I.base.there b o e hx
    exact there b o' (neC b o e hx) e1
  · obtain ⟨m1, e1⟩ := I.base.tbls b ps e
    obtain ⟨m2, e2⟩ := tbls b _ e1
    exact ⟨m1 ++ m2, by rw [e2, Array.append_assoc]⟩
  · obtain ⟨m, hn, hl⟩ := I.loc
    refine ⟨m, ns m hn, fun i x v e1 e2 e3 => ?_⟩
    obtain ⟨u, r, l⟩ := hl i x v e1 e2 e3
    refine ⟨u, r, ?_⟩
    rcases l with l | ⟨k, c, e, z⟩
    · exact .inl l
    · exact .inr ⟨k, c, e, cellK x c e _ z⟩
  · obtain ⟨v, z⟩ := I.cell x c e
    exact ⟨v, cellK x c e v z⟩
  · obtain ⟨m, ⟨o, _, _, ho, _⟩, _⟩ := I.loc
    exact free _ o (fun z => (hch _ z).2.1 rfl) ho I.free
  · obtain ⟨v, o, ho, hd⟩ := I.cell x c e
    exact free c o (fun z => (hch c z).2.2.1 x c e rfl) ho (I.freeC x c e)
  · obtain ⟨e, n, ne, nf, d⟩ := I.pin p hp
    have nch : p.1 ∉ ch := fun z => (hch p.1 z).2.2.2 p hp rfl
    exact ⟨keep p.1 p.2 ne nf nch e n, free p.1 p.2 nch e n, ne, nf, d⟩
/-- .. where the frame's own object is kept too -/
theorem Inv.un {t' : Nat} (I : Inv X pins σ H s) (u : Un X.fs [] H H' s.heap h') (hok : HOk X.prog X.w H' h') : Inv X pins σ H' { s with heap := h', toks := t' } := by
  obtain ⟨m, ⟨o, es, ep, ho, r⟩, _⟩ := id I.loc
  obtain ⟨sl, hL⟩ := u.any ho I.free (by simp)
  exact I.step (g' := s.gens) (d' := s.drawn) (ch := []) (fun _ z => nomatch z) (fun b o _ hb _ e n => u.keep b o e n hb (by simp)) (fun b o _ hb _ e n => u.slot b o e n hb (by simp)) (fun b o _ e n => u.free b o e n (by simp)) (fun b o _ e => u.there b o e (by simp)) u.tups u.frzs u.tbls (fun m' hm => by
    obtain ⟨o', es', ep', ho', r'⟩ := hm
    rw [ho] at ho'; cases ho'
    exact ⟨_, es', ep', hL, r'⟩) hok I.bare
/-- behind a call (or a comprehension's block): the slots of this frame may have changed too, the records at ch may have turned -/
theorem Inv.call {g' : Array GenState} {t' : Nat} {d' : Drawn} {ch : List Addr} (I : Inv X pins σ H s) (u : Un (frs X.stack) ch H H' s.heap h') (hok : HOk X.prog X.w H' h') (hg : AllBare g')
    (hch : ∀ b ∈ ch, (b ∈ X.ex ∨ X.s₀.heap.objs.size ≤ b) ∧ b ≠ X.env.locals ∧ (∀ x c, X.env.cells.lookup x = some c → c ≠ b) ∧ ∀ p ∈ X.pn ++ pins, p.1 ≠ b) :
    Inv X pins σ H' { s with heap := h', gens := g', drawn := d', toks := t' } := by
  obtain ⟨m, ⟨o, es, ep, ho, r⟩, _⟩ := id I.loc
  obtain ⟨sl, hL⟩ := u.any ho I.free fun z => (hch _ z).2.1 rfl
  exact I.step (ch := ch) hch (fun b o hL hb hc e n => u.keep b o e n (fun z => (List.mem_cons.mp (I.stkSub b z)).elim hL hb) hc) (fun b o _ _ hc e n => u.any e n hc) (fun b o hc e n => u.free b o e n hc) (fun b o hc e => u.there b o e hc) u.tups u.frzs u.tbls (fun m' hm => by
    obtain ⟨o', es', ep', ho', r'⟩ := hm
    rw [ho] at ho'; cases ho'
    exact ⟨_, es', ep', hL, r'⟩) hok hg
/-- an untracked record of ours (an iterator) has turned -/
theorem Inv.turned {t' : Nat} {it : Addr} (I : Inv X pins σ H s) (k : ∀ b o, b ≠ it → s.heap.get? b = some o → h'.get? b = some o) (hn : H it = none) (hL : it ≠ X.env.locals)
    (h1 : it ∈ X.ex ∨ X.s₀.heap.objs.size ≤ it) (h2 : ∀ x c, X.env.cells.lookup x = some c → c ≠ it) (h3 : ∀ p ∈ X.pn ++ pins, p.1 ≠ it) : Inv X pins σ H { s with heap := h', toks := t' } := by
  have nit : ∀ b u, H b = some u → b ≠ it := fun b u e z => by rw [z, hn] at e; cases e
  refine I.step (g' := s.gens) (d' := s.drawn) (ch := [it]) (fun b hb => ?_) (fun b o _ _ hc e _ => k b o (fun z => hc (by simp [z])) e) (fun b o _ _ hc e _ => ⟨o.slots, k b o (fun z => hc (by simp [z])) e⟩) (fun _ _ _ _ n => n)
    (fun b o hc e => ⟨o, k b o (fun z => hc (by simp [z])) e⟩) (fun _ _ e => e) (fun _ _ _ e => e) (fun b ps e => ⟨#[], by rw [e]; simp⟩) (fun m hm => ?_) (fun b u e => ?_) I.bare
  · have e : b = it := by simpa using hb
    subst e
    exact ⟨h1, hL, h2, h3⟩
  · obtain ⟨o, es, ep, ho, r⟩ := hm
    exact ⟨o, es, ep, k _ o (Ne.symm hL) ho, r⟩
  · refine (I.hok b u e).stay (fun c v hc q => k c v ?_ q) (fun _ q => q) fun _ _ q => q
    rcases hc with z | z
    · rw [z]; exact nit b u e
    · exact nit c _ z
theorem Inv.tok (I : Inv X pins σ H s) (t : Nat) : Inv X pins σ H { s with toks := t } := I.un (h' := s.heap) (t' := t) Un.refl I.hok
/-- all objects kept -/
theorem Inv.kept {t' : Nat} (I : Inv X pins σ H s) (k : ∀ b u, s.heap.get? b = some u → h'.get? b = some u) : Inv X pins σ H { s with heap := h', toks := t' } := I.un (Un.kept k) (I.hok.kept k)
/-- a new object laid and tracked -/
theorem Inv.laid {a : Addr} {o : HO} {t' : Nat} (I : Inv X pins σ H s) (k : ∀ b u, s.heap.get? b = some u → h'.get? b = some u) (hp : s.heap.objs.size ≤ a) (new : ObjOk X.prog X.w (upd H a o) h' a o) :
    Inv X pins σ (upd H a o) { s with heap := h', toks := t' } := I.un (Un.laid k hp (I.hok.fresh hp)) (I.hok.laid k hp new)
/-- an object written -/
theorem Inv.write {x e : Addr} {o : HO} {t' : Nat} (I : Inv X pins σ H s) (mu : Mut (H x)) (he : e = x ∨ H e = some (.own x)) (k : ∀ b u, b ≠ e → s.heap.get? b = some u → h'.get? b = some u) (heo : ∃ u, h'.get? e = some u)
    (new : ObjOk X.prog X.w (upd H x o) h' x o) : Inv X pins σ (upd H x o) { s with heap := h', toks := t' } := I.un (Un.write mu he k heo) (I.hok.write mu he k heo new)
theorem Inv.pins_of {pins' : List (Addr × Obj)} (I : Inv X pins σ H s) (h : ∀ p ∈ pins', s.heap.get? p.1 = some p.2 ∧ H p.1 = none ∧ p.1 ≠ X.env.locals ∧ p.1 ∉ X.fs ∧ ∀ v, p.2.data ≠ .cell v) : Inv X pins' σ H s :=
  ⟨I.ok, I.os, I.bare, I.base, I.loc, I.cell, I.free, I.freeC, fun p hp => (List.mem_append.mp hp).elim (fun z => I.pin p (List.mem_append_left _ z)) (h p), I.hok, I.len⟩

theorem nodup_ix {N : List Str} (hN : N.Nodup) {i j : Nat} {x : Str} (a : N[i]? = some x) (b : N[j]? = some x) : i = j := by
  obtain ⟨h1, e1⟩ := List.getElem?_eq_some_iff.mp a
  obtain ⟨h2, e2⟩ := List.getElem?_eq_some_iff.mp b
  exact (List.getElem_inj hN).mp (e1.trans e2.symm)

/-- a name is stored; what changed -/
theorem store_ok2 {M : Model} {A : Around} {E : Value → Shared → Prop} {i : Nat} {x : Str} {v : V} {u : Value} {Q : Unit → Shared → Prop} (I : Inv X pins σ H s) (hN : X.N.Nodup) (hi : X.N[i]? = some x) (hx : Loc X.env.scope x) (r : RelV v u)
    (h : ∀ s', Inv X pins (σ.set i (some v)) H s' → (∃ a, Heap.SameBut a s.heap s'.heap ∧ (a = X.env.locals ∨ X.env.cells.lookup x = some a)) → Q () s') (hf : X.fn x = true ∨ X.env.scope.names.lookup x = some .local := by first | exact .inl rfl | exact .inr rfl | assumption) : wpAny M A (storeName X.env x u) Q E s := by
  obtain ⟨m, hn, hl⟩ := id I.loc
  have hcls : (X.env.scope.kind == .class || (X.env.scope.kind == .module && X.env.locals != X.env.globals)) = false := by rw [I.ok.kind]; rfl
  have hiσ : i < σ.length := by rw [I.len]; exact (List.getElem?_eq_some_iff.mp hi).1
  have cne := I.cne
  have tracked : ∀ {a : Addr} {h' : Heap}, (∃ o, s.heap.get? a = some o ∧ H a = none) → Heap.SameBut a s.heap h' → HOk X.prog X.w H h' := fun {a h'} ha hs b ob e => by
    obtain ⟨_, _, hfree⟩ := ha
    refine (I.hok b ob e).stay (fun c w' hc q => (hs.2 c ?_).trans q) (fun _ q => q) fun _ _ q => q
    rintro rfl
    rcases hc with rfl | hc
    · rw [hfree] at e; cases e
    · rw [hfree] at hc; cases hc
  rcases hx with hk | hk
  · refine wpAny_storeName_local hk hn (fun h' hn' hs => ?_) hcls
    obtain ⟨oL, _, _, hoL, _⟩ := id hn
    refine h _ ⟨I.ok, I.os, I.bare, ⟨fun b o e n hb hx => ?_, fun b o e n hb hx => ?_, I.base.free, fun b o e hx => ?_, I.base.tups, I.base.frzs, I.base.tbls⟩, ⟨_, hn', fun j y v' e1 e2 e3 => ?_⟩, fun y c e => ?_, I.free, I.freeC, fun p hp => ?_, tracked ⟨oL, hoL, I.free⟩ hs, by simpa using I.len⟩ ⟨_, hs, .inl rfl⟩
    · exact (hs.2 b (Nat.ne_of_lt (Nat.lt_of_lt_of_le (Heap.lt_size e) I.ok.above))).trans (I.base.keep b o e n hb hx)
    · obtain ⟨sl, e1⟩ := I.base.slot b o e n hb hx
      exact ⟨sl, (hs.2 b (Nat.ne_of_lt (Nat.lt_of_lt_of_le (Heap.lt_size e) I.ok.above))).trans e1⟩
    · obtain ⟨o', e1⟩ := I.base.there b o e hx
      exact ⟨o', (hs.2 b (Nat.ne_of_lt (Nat.lt_of_lt_of_le (Heap.lt_size e) I.ok.above))).trans e1⟩
    · by_cases hj : j = i
      · subst hj
        rw [hi] at e1; cases e1
        rw [List.getElem?_set_self hiσ] at e2
        cases e2
        exact ⟨u, r, .inl ⟨hk, by simp⟩⟩
      · rw [List.getElem?_set_ne (Ne.symm hj)] at e2
        obtain ⟨u', r', q⟩ := hl j y v' e1 e2 e3
        refine ⟨u', r', ?_⟩
        rcases q with ⟨k, e⟩ | ⟨k, c, e, z⟩
        · refine .inl ⟨k, ?_⟩
          have : y ≠ x := fun e => hj (nodup_ix hN e1 (e ▸ hi))
          simp [this, e]
        · exact .inr ⟨k, c, e, z.sameBut hs (cne y c e)⟩
    · obtain ⟨w', z⟩ := I.cell y c e
      exact ⟨w', z.sameBut hs (cne y c e)⟩
    · obtain ⟨e, n, ne, nf, d⟩ := I.pin p hp
      exact ⟨(hs.2 p.1 ne).trans e, n, ne, nf, d⟩
  · have hfn : X.fn x = true := by
      rcases hf with z | z
      · exact z
      · rw [z] at hk; cases hk
    obtain ⟨c, hc⟩ := I.ok.has x (.inl hk)
    obtain ⟨w', z⟩ := I.cell x c hc
    refine wpAny_storeName_cell I.ok.kind hk hc z (fun h' hc' hs => ?_)
    obtain ⟨oc, hoc, hocd⟩ := id z
    refine h { s with heap := h' } ⟨I.ok, I.os, I.bare, ⟨fun b o e n hb hx => ?_, fun b o e n hb hx => ?_, I.base.free, fun b o e hx => ?_, I.base.tups, I.base.frzs, I.base.tbls⟩, ⟨m, hn.sameBut hs (Ne.symm (cne x c hc)), fun j y v' e1 e2 e3 => ?_⟩, fun y c' e => ?_, I.free, I.freeC, fun p hp => ?_, tracked ⟨oc, hoc, I.freeC x c hc⟩ hs, by simpa using I.len⟩ ⟨c, hs, .inr hc⟩
    · exact (hs.2 b (Nat.ne_of_lt (Nat.lt_of_lt_of_le (Heap.lt_size e) (I.ok.cab x c hfn hc)))).trans (I.base.keep b o e n hb hx)
    · obtain ⟨sl, e1⟩ := I.base.slot b o e n hb hx
      exact ⟨sl, (hs.2 b (Nat.ne_of_lt (Nat.lt_of_lt_of_le (Heap.lt_size e) (I.ok.cab x c hfn hc)))).trans e1⟩
    · obtain ⟨o', e1⟩ := I.base.there b o e hx
      exact ⟨o', (hs.2 b (Nat.ne_of_lt (Nat.lt_of_lt_of_le (Heap.lt_size e) (I.ok.cab x c hfn hc)))).trans e1⟩
    · by_cases hj : j = i
      · subst hj
        rw [hi] at e1; cases e1
        rw [List.getElem?_set_self hiσ] at e2
        cases e2
        exact ⟨u, r, .inr ⟨.inl hk, c, hc, hc'⟩⟩
      · rw [List.getElem?_set_ne (Ne.symm hj)] at e2
        obtain ⟨u', r', q⟩ := hl j y v' e1 e2 e3
        refine ⟨u', r', ?_⟩
        rcases q with q | ⟨k, c', e, z'⟩
        · exact .inl q
        · refine .inr ⟨k, c', e, z'.sameBut hs ?_⟩
          rintro rfl
          exact hj (nodup_ix hN e1 (I.ok.inj _ _ _ e hc ▸ hi))
    · by_cases hcc : c' = c
      · subst hcc; exact ⟨_, hc'⟩
      · obtain ⟨w2, z2⟩ := I.cell y c' e
        exact ⟨w2, z2.sameBut hs hcc⟩
    · obtain ⟨e, n, ne, nf, d⟩ := I.pin p hp
      refine ⟨(hs.2 p.1 ?_).trans e, n, ne, nf, d⟩
      intro q
      rw [q, hoc] at e
      have q' : oc = p.2 := Option.some.inj e
      exact d w' (by rw [← q']; exact hocd)
theorem store_ok {M : Model} {A : Around} {E : Value → Shared → Prop} {i : Nat} {x : Str} {v : V} {u : Value} {Q : Unit → Shared → Prop} (I : Inv X pins σ H s) (hN : X.N.Nodup) (hi : X.N[i]? = some x) (hx : Loc X.env.scope x) (r : RelV v u)
    (h : ∀ s', Inv X pins (σ.set i (some v)) H s' → Q () s') (hf : X.fn x = true ∨ X.env.scope.names.lookup x = some .local := by first | exact .inl rfl | exact .inr rfl | assumption) : wpAny M A (storeName X.env x u) Q E s :=
  store_ok2 I hN hi hx r (fun s' I' _ => h s' I') hf
/-- behind a call or a block, the state as it is -/
theorem Inv.call' {s' : Shared} {ch : List Addr} (I : Inv X pins σ H s) (ho : s'.os = s.os) (u : Un (frs X.stack) ch H H' s.heap s'.heap) (hok : HOk X.prog X.w H' s'.heap) (hg : AllBare s'.gens)
    (hch : ∀ b ∈ ch, (b ∈ X.ex ∨ X.s₀.heap.objs.size ≤ b) ∧ b ≠ X.env.locals ∧ (∀ x c, X.env.cells.lookup x = some c → c ≠ b) ∧ ∀ p ∈ X.pn ++ pins, p.1 ≠ b) : Inv X pins σ H' s' := by
  obtain ⟨h', g', d', t', o'⟩ := s'
  have e : o' = s.os := ho
  subst e
  exact I.call (g' := g') (t' := t') (d' := d') u hok hg hch
end

/-! ### the judgements -/
/-- an exception: its class, its own dict's address (where it has one), the abstract heap behind it -/
abbrev XK := Value → Option Addr → Hp → Prop
abbrev St := List (Option V)
abbrev VK := V → Hp → Prop
/-- an expression's reading; a test's; an argument list's -/
abbrev TE := St → Hp → VK → Prop
abbrev TT := St → Hp → (Bool → Hp → Prop) → Prop
abbrev TA := St → Hp → (List V → Hp → Prop) → Prop
/-- what is wanted behind a statement -/
structure Ends where
  nx : St → Hp → Prop
  rt : VK
  bk : St → Hp → Prop := fun _ _ => False
  ct : St → Hp → Prop := fun _ _ => False
abbrev TS := Ends → St → Hp → Prop

def EP (X : Cx) (pins : List (Addr × Obj)) (σ : St) (Q : VK) (u : Value) (s' : Shared) : Prop := ∃ v H', Inv X pins σ H' s' ∧ RelV v u ∧ Q v H'
def TP (X : Cx) (pins : List (Addr × Obj)) (σ : St) (Q : Bool → Hp → Prop) (b : Bool) (s' : Shared) : Prop := ∃ H', Inv X pins σ H' s' ∧ Q b H'
def AP (X : Cx) (pins : List (Addr × Obj)) (σ : St) (Q : List V → Hp → Prop) (us : List Value) (s' : Shared) : Prop := ∃ vs H', Inv X pins σ H' s' ∧ Vals vs us ∧ Q vs H'
def SP (X : Cx) (pins : List (Addr × Obj)) (D : Ends) (f : Flow) (s' : Shared) : Prop :=
  match f with
  | .next => ∃ σ' H', Inv X pins σ' H' s' ∧ D.nx σ' H'
  | .brk => ∃ σ' H', Inv X pins σ' H' s' ∧ D.bk σ' H'
  | .cont => ∃ σ' H', Inv X pins σ' H' s' ∧ D.ct σ' H'
  | .ret u => ∃ v σ' H', Inv X pins σ' H' s' ∧ RelV v u ∧ D.rt v H'

def PE (X : Cx) (e : Expr) (t : TE) : Prop :=
  ∀ (pins : List (Addr × Obj)) (s : Shared) (σ : St) (H : Hp) (Q : VK), Inv X pins σ H s → t σ H Q → wpAny (model X.prog X.w) X.A (eval e X.env) (EP X pins σ Q) X.xe s
def PT (X : Cx) (e : Expr) (t : TT) : Prop :=
  ∀ (pins : List (Addr × Obj)) (s : Shared) (σ : St) (H : Hp) (Q : Bool → Hp → Prop), Inv X pins σ H s → t σ H Q → wpAny (model X.prog X.w) X.A (isTrue e X.env (eval e X.env)) (TP X pins σ Q) X.xe s
/-- a test whatever its 'whole' is (and, or) -/
def PW (X : Cx) (e : Expr) (t : TT) : Prop :=
  ∀ (whole : Sem Value) (pins : List (Addr × Obj)) (s : Shared) (σ : St) (H : Hp) (Q : Bool → Hp → Prop), Inv X pins σ H s → t σ H Q → wpAny (model X.prog X.w) X.A (isTrue e X.env whole) (TP X pins σ Q) X.xe s
theorem PW.pt {X : Cx} {e : Expr} {t : TT} (h : PW X e t) : PT X e t := h _
/-- an argument list (no star), from the left -/
def PA (X : Cx) (es : List Expr) (t : TA) : Prop :=
  ∀ (pos : Pos) (pins : List (Addr × Obj)) (s : Shared) (σ : St) (H : Hp) (Q : List V → Hp → Prop), Inv X pins σ H s → t σ H Q → wpAny (model X.prog X.w) X.A (spliced (backTo pos (starEach es X.env))) (AP X pins σ Q) X.xe s
def PS (X : Cx) (st : Stmt) (t : TS) : Prop :=
  ∀ (pins : List (Addr × Obj)) (s : Shared) (σ : St) (H : Hp) (D : Ends), Inv X pins σ H s → t D σ H → wpAny (model X.prog X.w) X.A (exec st X.env) (SP X pins D) X.xe s
def PSs (X : Cx) (st : List Stmt) (t : TS) : Prop :=
  ∀ (pins : List (Addr × Obj)) (s : Shared) (σ : St) (H : Hp) (D : Ends), Inv X pins σ H s → t D σ H → wpAny (model X.prog X.w) X.A (execs st X.env) (SP X pins D) X.xe s
/-- weaken the end -/
theorem thn {α : Type} {t : Sem α} {Q Q' : α → Shared → Prop} {M : Model} {A : Around} {E : Value → Shared → Prop} {s : Shared} (h : wpAny M A t Q E s) (hQ : ∀ a s, Q a s → Q' a s) : wpAny M A t Q' E s := wpAny_mono h hQ fun _ _ x => x
end L2

namespace L2
open PySem PySem.Spec PyProof.Rows
section
variable {X : Cx}

/-! ### names and constants -/
def tVar (i : Nat) : TE := fun σ H Q => ∃ v, σ[i]? = some (some v) ∧ Q v H
def tC (v : V) : TE := fun _ H Q => Q v H
theorem pe_var {i : Nat} {x : Str} {pos : Pos} (hN : X.N[i]? = some x) (hv : Vis X.env.scope x) (hd : (x == ("__debug__" : Str)) = false := by decide) (hcd : (x == ("__classdict__" : Str)) = false := by decide) : PE X (.Name x pos) (tVar i) := by
  intro pins s σ H Q I h
  obtain ⟨v, e, h⟩ := h
  obtain ⟨m, hn, hl⟩ := I.loc
  obtain ⟨u, r, l⟩ := hl i x v hN e hv
  have fin : EP X pins σ Q u s := ⟨v, H, I, r, h⟩
  rcases l with ⟨hk, hm⟩ | ⟨hk, c, hc, hcell⟩
  · exact wpAny_Name (wpAny_loadName_local I.ok.kind hk hn hm fin) hd
  · rcases hk with hk | hk
    · exact wpAny_Name (wpAny_loadName_cell I.ok.kind hk hc hcell fin) hd
    · exact wpAny_Name (wpAny_loadName_free I.ok.kind hk hc hcell fin hcd) hd
theorem pe_int {i j pos} : PE X (.Constant (.int i) j pos) (tC (.int i)) := fun _ _ _ H _ I h => wpAny_Constant_int ⟨.int i, H, I.tok _, ⟨_, rfl⟩, h⟩
theorem pe_bl {b j pos} : PE X (.Constant (.bool b) j pos) (tC (.bl b)) := fun _ _ _ H _ I h => Constant_bool ⟨.bl b, H, I, rfl, h⟩
/-- a global name of the def -/
def Gl (X : Cx) (x : Str) : Prop := X.env.kindOf x = some .globalImplicit
theorem ld_glob {E : Value → Shared → Prop} {pins : List (Addr × Obj)} {s : Shared} {σ : St} {H : Hp} {x : Str} {u : Value} {pos : Pos} {Q : Value → Shared → Prop} (I : Inv X pins σ H s) (hg : Gl X x) (hm : X.mg x = some u) (h : Q u s)
    (hd : (x == ("__debug__" : Str)) = false := by decide) : wpAny (model X.prog X.w) X.A (eval (.Name x pos) X.env) Q E s :=
  Calls.Name_function_global I.ok.kind hg (Calls.loadGlobal_global (by rw [I.ok.glob]; exact I.mod.glob.keeps I.bk) hm h) hd
theorem ld_blt {E : Value → Shared → Prop} {pins : List (Addr × Obj)} {s : Shared} {σ : St} {H : Hp} {x : Str} {u : Value} {pos : Pos} {Q : Value → Shared → Prop} (I : Inv X pins σ H s) (hg : Gl X x) (hm : X.mg x = none) (hv : bootBuiltins x = some u) (h : Q u s)
    (hn : x ≠ "__name__" := by decide) (hd : (x == ("__debug__" : Str)) = false := by decide) : wpAny (model X.prog X.w) X.A (eval (.Name x pos) X.env) Q E s := by
  obtain ⟨mb, h1, h2⟩ := I.mod.blt
  exact Calls.Name_function_global I.ok.kind hg (Calls.loadGlobal_builtin (by rw [I.ok.glob]; exact I.mod.glob.keeps I.bk) hm (by rw [I.ok.blt]; exact h1.keeps I.bk) ((h2 x hn).trans hv) h) hd
/-- a module's constant, a class, a function, as a value -/
theorem pe_glob {x : Str} {v : V} {u : Value} {pos : Pos} (hg : Gl X x) (hm : X.mg x = some u) (r : RelV v u) (hd : (x == ("__debug__" : Str)) = false := by decide) : PE X (.Name x pos) (tC v) :=
  fun _ _ _ H _ I h => ld_glob I hg hm ⟨v, H, I, r, h⟩ hd
theorem pe_bltn {x : Str} {v : V} {u : Value} {pos : Pos} (hg : Gl X x) (hm : X.mg x = none) (hv : bootBuiltins x = some u) (r : RelV v u) (hn : x ≠ "__name__" := by decide) (hd : (x == ("__debug__" : Str)) = false := by decide) : PE X (.Name x pos) (tC v) :=
  fun _ _ _ H _ I h => ld_blt I hg hm hv ⟨v, H, I, r, h⟩ hn hd

/-! ### arithmetic -/
variable {a b : Expr} {ta tb : TE} {pos : Pos}
/-! ### comparisons -/
def PC (X : Cx) (op : CmpOp) (a b : Expr) (t : TE) : Prop :=
  ∀ (pins : List (Addr × Obj)) (s : Shared) (σ : St) (H : Hp) (Q : VK), Inv X pins σ H s → t σ H Q →
    wpAny (model X.prog X.w) X.A (eval a X.env) (fun v s₁ => wpAny (model X.prog X.w) X.A (eval b X.env) (fun u s₂ => wpAny (model X.prog X.w) X.A (compareOp op v u) (EP X pins σ Q) X.xe s₂) X.xe s₁) X.xe s
theorem nobehind (b : Expr) {op : CmpOp} (h : op ≠ .In) (h2 : op ≠ .NotIn) : behindInMarks op b = false := by
  have e1 : (op == CmpOp.In) = false := by cases op <;> first | rfl | exact absurd rfl h
  have e2 : (op == CmpOp.NotIn) = false := by cases op <;> first | rfl | exact absurd rfl h2
  cases b <;> simp [behindInMarks, e1, e2]
/-- a comparison as a value, as a test -/
def tB (t : TE) : TT := fun σ H Q => t σ H fun x H1 => ∃ c, x = .bl c ∧ Q c H1
theorem pt_cmp {op : CmpOp} {t : TE} (h : PC X op a b t) (h1 : behindInMarks op b = false := by first | exact nobehind _ (by decide) (by decide) | rfl) : PT X (.Compare a [op] [b] pos) (tB t) := by
  intro pins s σ H Q I hw
  refine wpAny_isTrue_Compare1 (thn (h pins s σ H _ I hw) fun v s1 h1 => thn h1 fun u s2 h2 => thn h2 fun c s3 ⟨x, H1, I1, r1, q1⟩ => ?_) h1
  obtain ⟨d, rfl, q⟩ := q1
  cases r1
  exact wpAny_truthy_bool ⟨H1, I1, q⟩
/-! ### and, or, not -/
variable {tA tB' : TT} {rest : List Expr}
def tAnd (t u : TT) : TT := fun σ H Q => t σ H fun c H1 => if c = true then u σ H1 Q else Q false H1
def tOr (t u : TT) : TT := fun σ H Q => t σ H fun c H1 => if c = true then Q true H1 else u σ H1 Q
def tNot (t : TT) : TT := fun σ H Q => t σ H fun c H1 => Q (!c) H1
theorem pw_and1 (ha : PT X a tA) : PW X (.BoolOp .And [a] pos) tA := by
  intro wh pins s σ H Q I h
  refine isTrue_and (thn (ha pins s σ H Q I h) fun c s1 e => ?_)
  cases c with
  | true => exact isTrue_and_nil e
  | false => exact e
theorem pw_or1 (ha : PT X a tA) : PW X (.BoolOp .Or [a] pos) tA := by
  intro wh pins s σ H Q I h
  refine isTrue_or (thn (ha pins s σ H Q I h) fun c s1 e => ?_)
  cases c with
  | false => exact isTrue_or_nil e
  | true => exact e
theorem pw_and (ha : PT X a tA) (hb : PW X (.BoolOp .And (b :: rest) pos) tB') : PW X (.BoolOp .And (a :: b :: rest) pos) (tAnd tA tB') := by
  intro wh pins s σ H Q I h
  refine isTrue_and (thn (ha pins s σ H _ I h) fun c s1 ⟨H1, I1, q1⟩ => ?_)
  cases c with
  | true => exact hb wh pins s1 σ H1 Q I1 q1
  | false => exact ⟨H1, I1, q1⟩
theorem pw_or (ha : PT X a tA) (hb : PW X (.BoolOp .Or (b :: rest) pos) tB') : PW X (.BoolOp .Or (a :: b :: rest) pos) (tOr tA tB') := by
  intro wh pins s σ H Q I h
  refine isTrue_or (thn (ha pins s σ H _ I h) fun c s1 ⟨H1, I1, q1⟩ => ?_)
  cases c with
  | true => exact ⟨H1, I1, q1⟩
  | false => exact hb wh pins s1 σ H1 Q I1 q1
theorem pt_not (ha : PT X a tA) : PT X (.UnaryOp .Not a pos) (tNot tA) := by
  intro pins s σ H Q I h
  exact isTrue_not (ha pins s σ H (fun c H1 => Q (!c) H1) I h)
/-- .. as values (bools) -/
def tAndV (ta tb : TE) : TE := fun σ H Q => ta σ H fun x H1 => ∃ c, x = .bl c ∧ if c = true then tb σ H1 Q else Q (.bl false) H1
theorem pe_one {op} {t : TE} (h : PE X a t) : PE X (.BoolOp op [a] pos) t := fun pins s σ H Q I hw => BoolOp_one (h pins s σ H Q I hw)
theorem pe_and (ha : PE X a ta) (hb : PE X (.BoolOp .And (b :: rest) pos) tb) : PE X (.BoolOp .And (a :: b :: rest) pos) (tAndV ta tb) := by
  intro pins s σ H Q I h
  refine BoolOp_and (thn (ha pins s σ H _ I h) fun v s1 ⟨x, H1, I1, r1, q1⟩ => ?_)
  obtain ⟨c, rfl, q1⟩ := q1
  cases r1
  refine wpAny_truthy_bool ?_
  cases c with
  | true => exact hb pins s1 σ H1 Q I1 q1
  | false => exact ⟨.bl false, H1, I1, rfl, q1⟩
/-- a if t else b -/
def tIf (t : TT) (ta tb : TE) : TE := fun σ H Q => t σ H fun c H1 => if c = true then ta σ H1 Q else tb σ H1 Q
theorem pe_ifExp {c : Expr} (hc : PT X c tA) (ha : PE X a ta) (hb : PE X b tb) : PE X (.IfExp c a b pos) (tIf tA ta tb) := by
  intro pins s σ H Q I h
  refine wpAny_IfExp (thn (hc pins s σ H _ I h) fun d s1 ⟨H1, I1, q1⟩ => ?_)
  cases d with
  | true => exact ha pins s1 σ H1 Q I1 q1
  | false => exact hb pins s1 σ H1 Q I1 q1
end
end L2

namespace L2
open PySem PySem.Spec PyProof.Rows

/-! ### a list, a tuple that is read: tracked, frozen, or an object of the module -/
def SqL (K : PySem.W.Frag) (H : Hp) (a : Addr) (xs : List V) : Prop :=
  Rd H a (.lst xs) ∨
    ∃ (o : Obj) (its : Array Value) (n : Nat), K.lookup a = some o ∧ o.cls = .type "list" ∧ o.dict = none ∧ o.data = .seq its n ∧ its.size ≤ sizeLine ∧ Vals xs its.toList
def SqT (K : PySem.W.Frag) (H : Hp) (a : Addr) (xs : List V) : Prop :=
  Rd H a (.tup xs) ∨
    ∃ (o : Obj) (its : Array Value) (n : Nat), K.lookup a = some o ∧ o.cls = .type "tuple" ∧ o.data = .seq its n ∧ its.size ≤ sizeLine ∧ Vals xs its.toList
def absV : Value → Option V
  | .none => some .non
  | .bool b => some (.bl b)
  | .int i _ => some (.int i)
  | .str x _ => some (.str x)
  | .bytes b _ => some (.byt b)
  | .float b _ => some (.flt b)
  | .ref a => some (.ref a)
  | .type n => some (.ty n)
  | _ => none
theorem RelV.abs {x : V} {u : Value} (r : RelV x u) : absV u = some x := by
  cases x with
  | non => cases r; rfl
  | bl _ => cases r; rfl
  | int _ => obtain ⟨t, rfl⟩ := r; rfl
  | str _ => obtain ⟨t, rfl⟩ := r; rfl
  | byt _ => obtain ⟨t, rfl⟩ := r; rfl
  | flt _ => obtain ⟨t, rfl⟩ := r; rfl
  | ref _ => cases r; rfl
  | ty _ => cases r; rfl
theorem RelV.inj {x y : V} {u : Value} (r : RelV x u) (q : RelV y u) : x = y := Option.some.inj (r.abs.symm.trans q.abs)
theorem Vals.inj : ∀ {xs ys : List V} {us : List Value}, Vals xs us → Vals ys us → xs = ys
  | _, _, _, .nil, .nil => rfl
  | _, _, _, .cons r t, .cons r' t' => by rw [r.inj r', Vals.inj t t']
section
variable {X : Cx} {pins : List (Addr × Obj)} {σ : St} {H : Hp} {s : Shared} {a : Addr} {xs ys : List V}
theorem SqL.of {K : PySem.W.Frag} (h : H a = some (.lst xs)) : SqL K H a xs := .inl (.inl h)
theorem SqT.of {K : PySem.W.Frag} (h : H a = some (.tup xs)) : SqT K H a xs := .inl (.inl h)
theorem Inv.list (I : Inv X pins σ H s) (h : SqL X.K H a xs) : ∃ its : List Value, Vals xs its ∧ PlainL s.heap a its.toArray ∧ xs.length ≤ sizeLine := by
  rcases h with h | ⟨o, its, n, hk, hc, hd, hs, hz, r⟩
  · obtain ⟨z, its, n, r, e⟩ := h.ok I.hok
    exact ⟨its, r, ⟨_, n, e, rfl, rfl, rfl⟩, z⟩
  · refine ⟨its.toList, r, ⟨o, n, I.kIn a o hk, hc, hd, by simpa using hs⟩, ?_⟩
    have e := r.length
    simp only [Array.length_toList] at e
    omega
theorem Inv.tuple (I : Inv X pins σ H s) (h : SqT X.K H a xs) : ∃ its : List Value, Vals xs its ∧ IsTup s.heap a its.toArray ∧ xs.length ≤ sizeLine := by
  rcases h with h | ⟨o, its, n, hk, hc, hs, hz, r⟩
  · obtain ⟨z, its, r, p⟩ := h.ok I.hok
    exact ⟨its, r, p, z⟩
  · refine ⟨its.toList, r, ⟨o, I.kIn a o hk, hc, n, by simpa using hs⟩, ?_⟩
    have e := r.length
    simp only [Array.length_toList] at e
    omega
theorem Inv.list_inj (I : Inv X pins σ H s) (h : SqL X.K H a xs) (h' : SqL X.K H a ys) : xs = ys := by
  obtain ⟨its, r, ⟨o, n, e, _, _, d⟩, _⟩ := I.list h
  obtain ⟨its', r', ⟨o', n', e', _, _, d'⟩, _⟩ := I.list h'
  rw [e] at e'; cases e'
  rw [d] at d'
  injection d' with d1 _
  have : its = its' := by simpa using congrArg Array.toList d1
  subst this
  exact r.inj r'
theorem Inv.tuple_inj (I : Inv X pins σ H s) (h : SqT X.K H a xs) (h' : SqT X.K H a ys) : xs = ys := by
  obtain ⟨its, r, ⟨o, e, _, n, d⟩, _⟩ := I.tuple h
  obtain ⟨its', r', ⟨o', e', _, n', d'⟩, _⟩ := I.tuple h'
  rw [e] at e'; cases e'
  rw [d] at d'
  injection d' with d1 _
  have : its = its' := by simpa using congrArg Array.toList d1
  subst this
  exact r.inj r'
end

/-! ### another wish about exceptions -/
abbrev Cx.wish (X : Cx) (E : Value → Shared → Prop) : Cx := { X with xe := E }
/-- no exception leaves -/
abbrev Cx.nox (X : Cx) : Cx := X.wish fun _ _ => False
theorem Cx.Ok.wish {X : Cx} (ok : X.Ok) (E : Value → Shared → Prop) : (X.wish E).Ok :=
  ⟨ok.mod, ok.kind, ok.glob, ok.blt, ok.above, ok.inj, ok.has, ok.cab, ok.hd, ok.frames, ok.stk, ok.exf, ok.bs, ok.bsz, ok.noex, ok.exfs, ok.funs, ok.frf⟩
theorem Cx.Ok.unwish {X : Cx} {E : Value → Shared → Prop} (ok : (X.wish E).Ok) : X.Ok :=
  ⟨ok.mod, ok.kind, ok.glob, ok.blt, ok.above, ok.inj, ok.has, ok.cab, ok.hd, ok.frames, ok.stk, ok.exf, ok.bs, ok.bsz, ok.noex, ok.exfs, ok.funs, ok.frf⟩
section
variable {X : Cx} {pins : List (Addr × Obj)} {σ : St} {H : Hp} {s : Shared} {E : Value → Shared → Prop}
theorem Inv.wish (I : Inv X pins σ H s) (E : Value → Shared → Prop) : Inv (X.wish E) pins σ H s := ⟨I.ok.wish E, I.os, I.bare, I.base, I.loc, I.cell, I.free, I.freeC, I.pin, I.hok, I.len⟩
theorem Inv.unwish (I : Inv (X.wish E) pins σ H s) : Inv X pins σ H s := ⟨I.ok.unwish, I.os, I.bare, I.base, I.loc, I.cell, I.free, I.freeC, I.pin, I.hok, I.len⟩
theorem SP.unwish {D : Ends} {f : Flow} {s' : Shared} (h : SP (X.wish E) pins D f s') : SP X pins D f s' := by
  cases f with
  | next => obtain ⟨σ', H', I, q⟩ := h; exact ⟨σ', H', I.unwish, q⟩
  | brk => obtain ⟨σ', H', I, q⟩ := h; exact ⟨σ', H', I.unwish, q⟩
  | cont => obtain ⟨σ', H', I, q⟩ := h; exact ⟨σ', H', I.unwish, q⟩
  | ret u => obtain ⟨v, σ', H', I, r, q⟩ := h; exact ⟨v, σ', H', I.unwish, r, q⟩
theorem PE.nox {e : Expr} {t : TE} (h : PE X.nox e t) : PE X e t := fun pins s σ H Q I hw =>
  wpAny_mono (h pins s σ H Q (I.wish _) hw) (fun _ _ ⟨v, H', I', r, q⟩ => ⟨v, H', I'.unwish, r, q⟩) fun _ _ z => False.elim z
theorem PT.nox {e : Expr} {t : TT} (h : PT X.nox e t) : PT X e t := fun pins s σ H Q I hw =>
  wpAny_mono (h pins s σ H Q (I.wish _) hw) (fun _ _ ⟨H', I', q⟩ => ⟨H', I'.unwish, q⟩) fun _ _ z => False.elim z
theorem PSs.nox {st : List Stmt} {t : TS} (h : PSs X.nox st t) : PSs X st t := fun pins s σ H D I hw =>
  wpAny_mono (h pins s σ H D (I.wish _) hw) (fun _ _ q => q.unwish) fun _ _ z => False.elim z
end

/-! ### blocks and small statements -/
section
variable {X : Cx} {st : Stmt} {rest : List Stmt} {t u : TS} {e : Expr} {te : TE} {pos : Pos}
def tNext : TS := fun D σ H => D.nx σ H
def tSeq (t u : TS) : TS := fun D σ H => t { D with nx := u D } σ H
theorem pss_nil : PSs X [] tNext := fun _ _ σ H _ I h => wpAny_execs_nil ⟨σ, H, I, h⟩
theorem pss_cons (h1 : PS X st t) (h2 : PSs X rest u) : PSs X (st :: rest) (tSeq t u) := by
  intro pins s σ H D I h
  refine wpAny_execs_cons (thn (h1 pins s σ H { D with nx := u D } I h) fun f s1 q => ?_)
  cases f with
  | next =>
    obtain ⟨σ', H', I', q⟩ := q
    exact h2 pins s1 σ' H' D I' q
  | ret v => exact q
  | brk => exact q
  | cont => exact q
theorem pss_one (h1 : PS X st t) : PSs X [st] t := by
  intro pins s σ H D I h
  refine wpAny_execs_cons (thn (h1 pins s σ H D I h) fun f s1 q => ?_)
  cases f with
  | next => exact wpAny_execs_nil q
  | ret v => exact q
  | brk => exact q
  | cont => exact q
/-- in a def's body nothing is shown -/
theorem Inv.quiet {pins : List (Addr × Obj)} {σ : St} {H : Hp} {s : Shared} (I : Inv X pins σ H s) : interactive X.env = false := by simp [interactive, I.ok.kind]
/-- an expression whose value is dropped -/
def tDrop (te : TE) : TS := fun D σ H => te σ H fun _ H1 => D.nx σ H1
theorem ps_expr (he : PE X e te) (hs : swapsWith e none pos.line X.env = pure false := by rfl) : PS X (.Expr e pos) (tDrop te) := by
  intro pins s σ H D I h
  exact wpAny_Expr_any (thn (he pins s σ H _ I h) fun v s1 ⟨x, H1, I1, r1, q1⟩ => ⟨σ, H1, I1, q1⟩) I.quiet hs
def tRet (te : TE) : TS := fun D σ H => te σ H D.rt
theorem ps_ret (he : PE X e te) : PS X (.Return (some e) pos) (tRet te) := by
  intro pins s σ H D I h
  exact wpAny_Return_some (thn (he pins s σ H _ I h) fun v s1 ⟨x, H1, I1, r1, q1⟩ => ⟨x, σ, H1, I1, r1, q1⟩)
def tRetN : TS := fun D _ H => D.rt .non H
theorem ps_retN : PS X (.Return none pos) tRetN := fun _ _ σ H _ I h => wpAny_Return_none ⟨.non, σ, H, I, rfl, h⟩
def tIfS (c : TT) (t u : TS) : TS := fun D σ H => c σ H fun b H1 => if b = true then t D σ H1 else u D σ H1
theorem ps_if {c : Expr} {a b : List Stmt} {tc : TT} (hc : PT X c tc) (ha : PSs X a t) (hb : PSs X b u) : PS X (.If c a b pos) (tIfS tc t u) := by
  intro pins s σ H D I h
  refine wpAny_If (thn (hc pins s σ H _ I h) fun d s1 ⟨H1, I1, q1⟩ => ?_)
  cases d with
  | true => exact ha pins s1 σ H1 D I1 q1
  | false => exact hb pins s1 σ H1 D I1 q1
/-- code that the proof never comes to -/
def tNever : TS := fun _ _ _ => False
theorem ps_never : PS X st tNever := fun _ _ _ _ _ _ h => h.elim
end

/-! ### targets -/
abbrev TG := V → St → Hp → (St → Hp → Prop) → Prop
abbrev TGs := List V → St → Hp → (St → Hp → Prop) → Prop
def PG (X : Cx) (target : Expr) (t : TG) : Prop :=
  ∀ (pins : List (Addr × Obj)) (s : Shared) (σ : St) (H : Hp) (v : V) (u : Value) (Q : St → Hp → Prop), Inv X pins σ H s → RelV v u → t v σ H Q →
    wpAny (model X.prog X.w) X.A (assign target X.env u) (fun _ s' => ∃ σ' H', Inv X pins σ' H' s' ∧ Q σ' H') X.xe s
/-- several targets, one after another -/
def PGs (X : Cx) (ts : List Expr) (t : TGs) : Prop :=
  ∀ (pins : List (Addr × Obj)) (s : Shared) (σ : St) (H : Hp) (vs : List V) (us : List Value) (Q : St → Hp → Prop), Inv X pins σ H s → Vals vs us → t vs σ H Q →
    wpAny (model X.prog X.w) X.A (assignInOrder ((assignEach ts X.env).map (·.2)) us) (fun _ s' => ∃ σ' H', Inv X pins σ' H' s' ∧ Q σ' H') X.xe s
/-- o[i] = v, by values -/
abbrev TSet := V → V → V → Hp → (Hp → Prop) → Prop
def PSet (X : Cx) (t : TSet) : Prop :=
  ∀ (pins : List (Addr × Obj)) (s : Shared) (σ : St) (H : Hp) (o i v : V) (ov iv u : Value) (Q : Hp → Prop), Inv X pins σ H s → RelV o ov → RelV i iv → RelV v u → t o i v H Q →
    wpAny (model X.prog X.w) X.A (setItem ov iv u) (fun _ s' => ∃ H', Inv X pins σ H' s' ∧ Q H') X.xe s
/-- a op= b, by values -/
abbrev TIp := V → V → Hp → VK → Prop
def PIp (X : Cx) (op : Operator) (t : TIp) : Prop :=
  ∀ (pins : List (Addr × Obj)) (s : Shared) (σ : St) (H : Hp) (x y : V) (v u : Value) (Q : VK), Inv X pins σ H s → RelV x v → RelV y u → t x y H Q →
    wpAny (model X.prog X.w) X.A (inplaceOp op v u) (EP X pins σ Q) X.xe s
section
variable {X : Cx} {pos : Pos}
def gName (i : Nat) : TG := fun v σ H Q => Q (σ.set i (some v)) H
theorem pg_name {i : Nat} {x : Str} (hN : X.N.Nodup) (hi : X.N[i]? = some x) (hx : Loc X.env.scope x) (hf : X.fn x = true ∨ X.env.scope.names.lookup x = some .local := by first | exact .inl rfl | exact .inr rfl | assumption) : PG X (.Name x pos) (gName i) := by
  intro pins s σ H v u Q I r h
  exact wpAny_assign_Name (store_ok I hN hi hx r (fun s' I' => ⟨_, H, I', h⟩) hf)
def gNil : TGs := fun vs σ H Q => vs = [] ∧ Q σ H
def gCons (t : TG) (u : TGs) : TGs := fun vs σ H Q => ∃ v r, vs = v :: r ∧ t v σ H fun σ' H' => u r σ' H' Q
theorem pgs_nil : PGs X [] gNil := by
  intro pins s σ H vs us Q I r h
  obtain ⟨e, h⟩ := h
  subst e
  cases r
  exact assignInOrder_nil ⟨σ, H, I, h⟩
theorem pgs_cons {e : Expr} {es : List Expr} {t : TG} {u : TGs} (h1 : PG X e t) (h2 : PGs X es u)
    (hs : (assignEach (e :: es) X.env).map (·.2) = assign e X.env :: (assignEach es X.env).map (·.2) := by rfl) : PGs X (e :: es) (gCons t u) := by
  intro pins s σ H vs us Q I r h
  obtain ⟨v, vr, e1, h⟩ := h
  subst e1
  cases r with
  | cons r rr =>
    rw [hs]
    refine assignInOrder_cons (thn (h1 pins s σ H _ _ _ I r h) fun _ s1 ⟨σ1, H1, I1, q1⟩ => ?_)
    exact h2 pins s1 σ1 H1 _ _ Q I1 rr q1
/-- (a, b, ..) = a tuple of that length -/
def gTup (K : PySem.W.Frag) (n : Nat) (t : TGs) : TG := fun v σ H Q => ∃ a xs, v = .ref a ∧ SqT K H a xs ∧ xs.length = n ∧ t xs σ H Q
theorem pg_tup {es : List Expr} {k : Nat} {t : TGs} {n : Nat} (hc : X.calm = true) (h : PGs X es t)
    (hn : (assignEach es X.env).length = n := by rfl) (hst : (assignEach es X.env).findIdx? (·.1) = none := by rfl) : PG X (.Tuple es k pos) (gTup X.K n t) := by
  intro pins s σ H v u Q I r hw
  obtain ⟨a, xs, e1, hq, hl, hw⟩ := hw
  subst e1
  cases r
  obtain ⟨its, rv, ht, hz⟩ := I.tuple hq
  refine assign_Tuple_tuple (I.ok.hd hc) ht (by simp [hn, ← hl, rv.length]) hst fun h' hx => ?_
  have I1 : Inv X pins σ H { s with heap := h' } := I.kept (t' := s.toks) fun b o e => hx b o (Nat.ne_of_lt (Heap.lt_size e)) e
  exact h pins _ σ H xs _ Q I1 (by simpa using rv) hw
/-- o[i] = .. -/
def gSub (to ti : TE) (t : TSet) : TG := fun v σ H Q => to σ H fun o H1 => ti σ H1 fun i H2 => t o i v H2 fun H3 => Q σ H3
theorem pg_sub {o i : Expr} {to ti : TE} {t : TSet} (ho : PE X o to) (hi : PE X i ti) (hs : PSet X t)
    (ha : ∀ v, assign (.Subscript o i pos) X.env v = (do
      let ov ← holding [v] (eval o X.env)
      let iv ← holding [v, ov] (eval i X.env)
      standAt pos
      holding [v, ov, iv] (setItem ov iv v)
      release [v, ov, iv] []) := by intro _; rfl) : PG X (.Subscript o i pos) (gSub to ti t) := by
  intro pins s σ H v u Q I r h
  rw [ha]
  refine wpAny_bind (wpAny_holding (thn (ho pins s σ H _ I h) fun ov s1 ⟨x, H1, I1, r1, q1⟩ => ?_))
  refine wpAny_bind (wpAny_holding (thn (hi pins s1 σ H1 _ I1 q1) fun iv s2 ⟨y, H2, I2, r2, q2⟩ => ?_))
  refine wpAny_bind (wpAny_standAt (wpAny_bind (wpAny_holding (thn (hs pins s2 σ H2 x y v ov iv u _ I2 r1 r2 r q2) fun _ s3 ⟨H3, I3, q3⟩ => ?_))))
  exact wpAny_release ⟨σ, H3, I3, q3⟩
/-- target = value -/
def tAsg (te : TE) (g : TG) : TS := fun D σ H => te σ H fun x H1 => g x σ H1 D.nx
theorem ps_asg {tg e : Expr} {te : TE} {g : TG} (he : PE X e te) (hg : PG X tg g) (hs : swapsWithSole [tg] e pos.line X.env = pure false := by rfl) (hw : swappedStores [tg] e X.env = pure none := by rfl)
    (h1 : (assignEach [tg] X.env).map (·.2) = [assign tg X.env] := by rfl) : PS X (.Assign [tg] e pos) (tAsg te g) := by
  intro pins s σ H D I h
  refine wpAny_Assign_stores (thn (he pins s σ H _ I h) fun v s1 ⟨x, H1, I1, r1, q1⟩ => ?_) hs hw
  rw [h1]
  exact thn (hg pins s1 σ H1 x v _ I1 r1 q1) fun _ s2 q => q
/-- name = value -/
theorem ps_set {i : Nat} {x : Str} {e : Expr} {te : TE} {pos' : Pos} (hN : X.N.Nodup) (hi : X.N[i]? = some x) (hx : Loc X.env.scope x) (he : PE X e te) (hs : swapsWith e (some (.Name x pos')) pos.line X.env = pure false := by rfl) (hf : X.fn x = true ∨ X.env.scope.names.lookup x = some .local := by first | exact .inl rfl | exact .inr rfl | assumption) :
    PS X (.Assign [.Name x pos'] e pos) (tAsg te (gName i)) := by
  intro pins s σ H D I h
  refine wpAny_Assign_Name (thn (he pins s σ H _ I h) fun v s1 ⟨y, H1, I1, r1, q1⟩ => ?_) hs
  exact store_ok I1 hN hi hx r1 (fun s2 I2 => ⟨_, H1, I2, q1⟩) hf
/-- a, b = x, y with plain local names: stored from the right; the pair itself is not tracked (the opening rows as in PyProof/Rows/TupAssign.lean:23) -/
def tPar (i j : Nat) (ta : TA) : TS := fun D σ H => ta σ H fun vs H1 => ∃ v w, vs = [v, w] ∧ D.nx ((σ.set i (some v)).set j (some w)) H1
theorem ps_par {i j : Nat} {x y : Str} {a b : Expr} {ta : TA} {px py pt : Pos} {kt k2 pt2} (hc : X.calm = true) (hN : X.N.Nodup) (hi : X.N[i]? = some x) (hj : X.N[j]? = some y) (hij : i ≠ j)
    (hx : X.env.scope.names.lookup x = some .local) (hy : X.env.scope.names.lookup y = some .local) (ha : PA X [a, b] ta)
    (hw : swappedStores [.Tuple [.Name x px, .Name y py] kt pt] (.Tuple [a, b] k2 pt2) X.env = pure (some [x, y]))
    (hs : swapsWithSole [.Tuple [.Name x px, .Name y py] kt pt] (.Tuple [a, b] k2 pt2) pos.line X.env = pure false := by rfl) :
    PS X (.Assign [.Tuple [.Name x px, .Name y py] kt pt] (.Tuple [a, b] k2 pt2) pos) (tPar i j ta) := by
  intro pins s σ H D I h
  rw [exec_Assign_arm]
  refine wpAny_bind (wpAny_standAt ?_)
  rw [hs]
  refine wpAny_bind (wpAny_pure ?_)
  rw [if_neg (by decide)]
  refine wpAny_bind (Tuple_ (thn (ha _ pins s σ H _ I h) fun us s1 ⟨vs, H1, I1, r1, q1⟩ => ?_))
  obtain ⟨v, w, e1, q1⟩ := q1
  subst e1
  obtain ⟨u1, u2, rfl, rv, rw'⟩ : ∃ u1 u2, us = [u1, u2] ∧ RelV v u1 ∧ RelV w u2 := by
    cases r1 with
    | cons p q =>
      cases q with
      | cons p' q' =>
        cases q'
        exact ⟨_, _, rfl, p, p'⟩
  refine wpAny_newObj_type ?_ (by show 2 ≤ sizeLine; decide)
  have I2 : Inv X pins σ H1 { s1 with heap := s1.heap.push { cls := .type "tuple", data := .seq [u1, u2].toArray } } := I1.kept (t' := s1.toks) fun b o e => Heap.get?_push_of_some _ e
  rw [hw]
  refine wpAny_bind (wpAny_pure ?_)
  show wpAny (model X.prog X.w) X.A (do rule "assign.swapped-stores"; let items ← unpackItems (.ref s1.heap.objs.size) 2 none; assignInOrder [fun v => bindName X.env y v, fun v => bindName X.env x v] items.reverse; pure Flow.next) _ _ _
  refine wpAny_bind (wpAny_rule (wpAny_bind (unpackItems_tuple (items := #[u1, u2]) (I.ok.hd hc) (IsTup.new s1.heap _) fun h' hx' => ?_)))
  have I3 := I2.kept (h' := h') (t' := s1.toks) fun b o e => hx' b o (Nat.ne_of_lt (Heap.lt_size e)) e
  show wpAny _ _ (assignInOrder [fun v => bindName X.env y v, fun v => bindName X.env x v] [u2, u1] >>= fun _ => pure Flow.next) _ _ _
  refine wpAny_bind (assignInOrder_cons (wpAny_bindName (store_ok I3 hN hj (.inl hy) rw' (fun s2 I4 => ?_) (.inr hy))))
  refine assignInOrder_cons (wpAny_bindName (store_ok I4 hN hi (.inl hx) rv (fun s3 I5 => assignInOrder_nil (wpAny_pure ?_)) (.inr hx)))
  rw [List.set_comm _ _ (Ne.symm hij)] at I5
  exact ⟨_, H1, I5, q1⟩
/-- name op= e -/
def tAug (i : Nat) (te : TE) (ti : TIp) : TS := fun D σ H => ∃ x, σ[i]? = some (some x) ∧ te σ H fun y H1 => ti x y H1 fun z H2 => D.nx (σ.set i (some z)) H2
theorem ps_aug {i : Nat} {x : Str} {e : Expr} {te : TE} {op : Operator} {ti : TIp} {pos' : Pos} (hN : X.N.Nodup) (hi : X.N[i]? = some x) (hx : Loc X.env.scope x) (he : PE X e te) (ho : PIp X op ti) (hf : X.fn x = true ∨ X.env.scope.names.lookup x = some .local := by first | exact .inl rfl | exact .inr rfl | assumption) :
    PS X (.AugAssign (.Name x pos') op e pos) (tAug i te ti) := by
  intro pins s σ H D I h
  obtain ⟨v, e1, h⟩ := h
  obtain ⟨m, hn, hl⟩ := I.loc
  have vis : Vis X.env.scope x := by rcases hx with k | k; exact .inl k; exact .inr (.inl k)
  obtain ⟨u, r, l⟩ := hl i x v hi e1 vis
  refine wpAny_AugAssign_Name ?_
  have go : wpAny (model X.prog X.w) X.A (eval e X.env) (fun w s₂ => wpAny (model X.prog X.w) X.A (inplaceOp op u w) (fun r s₃ => wpAny (model X.prog X.w) X.A (storeName X.env x r) (fun _ => SP X pins D .next) X.xe s₃) X.xe s₂) X.xe s := by
    refine thn (he pins s σ H _ I h) fun w s1 ⟨y, H1, I1, r1, q1⟩ => ?_
    refine thn (ho pins s1 σ H1 v y u w _ I1 r r1 q1) fun z s2 ⟨zv, H2, I2, r2, q2⟩ => ?_
    exact store_ok I2 hN hi hx r2 (fun s3 I3 => ⟨_, H2, I3, q2⟩) hf
  rcases l with ⟨hk, hm⟩ | ⟨hk, c, hc, hcell⟩
  · exact wpAny_loadName_local I.ok.kind hk hn hm go
  · rcases hk with hk | hk
    · exact wpAny_loadName_cell I.ok.kind hk hc hcell go
    · rcases hx with k | k
      · have : X.env.scope.names.lookup x = some .free := hk
        rw [k] at this; cases this
      · have : X.env.scope.names.lookup x = some .free := hk
        rw [k] at this; cases this
/-- ints -/
def ipI (f : Int → Int → Int) : TIp := fun x y H Q => ∃ i j, x = .int i ∧ y = .int j ∧ Q (.int (f i j)) H
theorem ip_add : PIp X .Add (ipI fun i j => i + j) := by
  intro pins s σ H x y v u Q I r1 r2 h
  obtain ⟨i, j, e1, e2, q⟩ := h
  subst e1; subst e2
  obtain ⟨t, rfl⟩ := r1
  obtain ⟨t', rfl⟩ := r2
  exact iadd_int ⟨.int _, H, I.tok _, ⟨_, rfl⟩, q⟩
theorem ip_sub : PIp X .Sub (ipI fun i j => i - j) := by
  intro pins s σ H x y v u Q I r1 r2 h
  obtain ⟨i, j, e1, e2, q⟩ := h
  subst e1; subst e2
  obtain ⟨t, rfl⟩ := r1
  obtain ⟨t', rfl⟩ := r2
  exact isub_int ⟨.int _, H, I.tok _, ⟨_, rfl⟩, q⟩
end

/-! ### while -/
section
variable {X : Cx} {pos : Pos}
/-- the invariant W with its measure -/
def tWhile (c : TT) (tb : TS) : TS := fun D σ H => ∃ W : Nat → St → Hp → Prop, (∃ m, W m σ H) ∧ ∀ m σ H, W m σ H →
  c σ H fun b H1 => if b = true then ∃ N : St → Hp → Prop, (∀ σ' H', N σ' H' → ∃ m', m' < m ∧ W m' σ' H') ∧ tb { D with nx := N, ct := N, bk := D.nx } σ H1 else D.nx σ H1
theorem ps_while {c : Expr} {body : List Stmt} {tc : TT} {tb : TS} (hp : PassesOwn (model X.prog X.w) X.A X.env X.xe) (hc : PT X c tc) (hb : PSs X body tb) : PS X (.While c body [] pos) (tWhile tc tb) := by
  intro pins s σ H D I h
  obtain ⟨W, ⟨m0, w0⟩, turn⟩ := h
  refine wpAny_While (codeAny_whileLoop (fun n s' => ∃ σ' H', Inv X pins σ' H' s' ∧ W n σ' H') ?_ m0 ⟨σ, H, I, w0⟩)
  rintro n s1 ⟨σ1, H1, I1, w1⟩
  refine wpAny_passesOwn hp (thn (hc pins s1 σ1 H1 _ I1 (turn n σ1 H1 w1)) fun b s2 ⟨H2, I2, q2⟩ => ?_)
  cases b with
  | true =>
    obtain ⟨N, hN, q2⟩ := q2
    rw [if_pos rfl]
    refine wpAny_passesOwn hp (thn (hb pins s2 σ1 H2 _ I2 q2) fun f s3 q3 => ?_)
    cases f with
    | next =>
      obtain ⟨σ3, H3, I3, n3⟩ := q3
      obtain ⟨m', hm, w3⟩ := hN σ3 H3 n3
      exact ⟨m', hm, σ3, H3, I3, w3⟩
    | cont =>
      obtain ⟨σ3, H3, I3, n3⟩ := q3
      obtain ⟨m', hm, w3⟩ := hN σ3 H3 n3
      exact ⟨m', hm, σ3, H3, I3, w3⟩
    | brk => exact q3
    | ret v => exact q3
  | false =>
    rw [if_neg Bool.false_ne_true]
    exact wpAny_execs_nil ⟨σ1, H2, I2, q2⟩
end

/-! ### what a loop or a comprehension walks -/
/-- at turn i: it yields x (the heap may grow), or it stops -/
structure It where
  go : Nat → Hp → Prop
  yld : Nat → Hp → V → Hp → Prop
  stop : Nat → Hp → Prop
/-- the iterator's own objects may turn: they are not the frame's, not pinned, younger than the entry (or a comprehension's own) -/
def FpOk (X : Cx) (pins : List (Addr × Obj)) (H : Hp) (b : Addr) : Prop :=
  H b = none ∧ b ≠ X.env.locals ∧ b ∉ X.fs ∧ (b ∈ X.ex ∨ X.s₀.heap.objs.size ≤ b) ∧ (∀ x c, X.env.cells.lookup x = some c → c ≠ b) ∧ ∀ p ∈ X.pn ++ pins, p.1 ≠ b
theorem Inv.fpOk {X : Cx} {pins : List (Addr × Obj)} {σ : St} {H H' : Hp} {s : Shared} {b : Addr} (I : Inv X pins σ H s) (hb : s.heap.objs.size ≤ b) (hn : H' b = none) : FpOk X pins H' b := by
  refine ⟨hn, Nat.ne_of_gt (Nat.lt_of_lt_of_le I.lt hb), I.nofs hb, .inr (Nat.le_trans I.sz hb), fun x c e z => ?_, fun p hp z => ?_⟩
  · obtain ⟨v, q⟩ := I.cell x c e
    exact absurd (Nat.lt_of_lt_of_le q.lt (by rw [z]; exact hb)) (Nat.lt_irrefl _)
  · exact absurd (Nat.lt_of_lt_of_le (Heap.lt_size (I.pin p hp).1) (by rw [z]; exact hb)) (Nat.lt_irrefl _)
structure Turn (P : Program) (w : World) (K : PySem.W.Frag) (tg : Expr) (J : It) (fp : List Addr) (it : Addr) (tn : Nat → Heap → Prop) : Prop where
  mem : it ∈ fp
  obj : ∀ i h, tn i h → ∀ b ∈ fp, ∃ o, h.get? b = some o ∧ ∀ v, o.data ≠ .cell v
  keep : ∀ i h h', tn i h → (∀ b ∈ fp, ∀ o, h.get? b = some o → h'.get? b = some o) → tn i h'
  item : ∀ (X : Cx), X.prog = P → X.w = w → X.K = K → X.calm = true → ∀ (i : Nat) (pins : List (Addr × Obj)) (s : Shared) (σ : St) (H : Hp) (E : Value → Shared → Prop), Inv X pins σ H s → (∀ b ∈ fp, FpOk X pins H b) → tn i s.heap → J.go i H →
    wpAny (model P w) X.A (pyNext (.ref it)) (fun r s1 => ∃ u, r = some u ∧
      wpAny (model P w) X.A (letOwnedTupleGo tg (.ref it) u) (fun _ s2 => ∃ x H', Inv X pins σ H' s2 ∧ RelV x u ∧ J.yld i H x H' ∧ tn (i + 1) s2.heap ∧ ∀ b ∈ fp, H' b = none) E s1) E s
  done : ∀ (X : Cx), X.prog = P → X.w = w → X.K = K → X.calm = true → ∀ (i : Nat) (pins : List (Addr × Obj)) (s : Shared) (σ : St) (H : Hp) (E : Value → Shared → Prop), Inv X pins σ H s → (∀ b ∈ fp, FpOk X pins H b) → tn i s.heap → J.stop i H →
    wpAny (model P w) X.A (pyNext (.ref it)) (fun r s1 => r = none ∧ Inv X pins σ H s1) E s
  self : ∀ (A : Around) (i : Nat) (s : Shared) (Q : Value → Shared → Prop) (E : Value → Shared → Prop), tn i s.heap → Q (.ref it) s → wpAny (model P w) A (pyIter (.ref it)) Q E s
abbrev TI := St → Hp → (It → Hp → Prop) → Prop
/-- an iterator has come -/
def PIE (X : Cx) (pins : List (Addr × Obj)) (σ : St) (tg : Expr) (R : It → Hp → Prop) (itv : Value) (s2 : Shared) : Prop :=
  ∃ (it : Addr) (fp : List Addr) (tn : Nat → Heap → Prop) (J : It) (H' : Hp), itv = .ref it ∧ Inv X pins σ H' s2 ∧ Turn X.prog X.w X.K tg J fp it tn ∧ tn 0 s2.heap ∧ (∀ b ∈ fp, FpOk X pins H' b) ∧ R J H'
def PI (X : Cx) (tg iter : Expr) (wi : TI) : Prop :=
  ∀ (pins : List (Addr × Obj)) (s : Shared) (σ : St) (H : Hp) (R : It → Hp → Prop), Inv X pins σ H s → wi σ H R →
    wpAny (model X.prog X.w) X.A (eval iter X.env) (fun v s1 => wpAny (model X.prog X.w) X.A (pyIter v) (PIE X pins σ tg R) X.xe s1) X.xe s

/-- the step ahead of the store is nothing for an iterator that keeps no tuple -/
theorem go_of {M : Model} {A : Around} {E : Value → Shared → Prop} {s : Shared} {tg : Expr} {it : Addr} {u : Value} {o : Obj} {n : String} {vs : Array Value} {Q : Unit → Shared → Prop} (ho : s.heap.get? it = some o) (hc : o.cls = .type n) (hd : o.data = .fields vs)
    (hn : ["enumerate", "zip", "dict_itemiterator", "dict_reverseitemiterator", "odict_iterator", "itertools.zip_longest", "itertools.pairwise"].contains n = false) (hQ : Q () s) : wpAny M A (letOwnedTupleGo tg (.ref it) u) Q E s := by
  unfold letOwnedTupleGo
  cases tg <;> first
    | exact wpAny_pure hQ
    | (cases u <;> first
        | exact wpAny_pure hQ
        | (refine wpAny_bind (wpAny_load ho ?_)
           rw [hc, hd]
           show wpAny M A (if (["enumerate", "zip", "dict_itemiterator", "dict_reverseitemiterator", "odict_iterator", "itertools.zip_longest", "itertools.pairwise"].contains n && vs[0]? == some (rawInt _)) = true then _ else _) Q E s
           rw [if_neg (by intro h; rw [hn, Bool.false_and] at h; cases h)]
           exact wpAny_pure hQ))

/-- the list at a, as it stands at each turn (a loop may append to it) -/
def Itl (K : PySem.W.Frag) (a : Addr) : It :=
  ⟨fun i H => ∃ xs x, SqL K H a xs ∧ xs[i]? = some x, fun i H x H' => H' = H ∧ ∀ xs, SqL K H a xs → xs[i]? = some x, fun i H => ∃ xs, SqL K H a xs ∧ xs.length ≤ i⟩
def Itt (K : PySem.W.Frag) (a : Addr) : It :=
  ⟨fun i H => ∃ xs x, SqT K H a xs ∧ xs[i]? = some x, fun i H x H' => H' = H ∧ ∀ xs, SqT K H a xs → xs[i]? = some x, fun i H => ∃ xs, SqT K H a xs ∧ xs.length ≤ i⟩
/-- lo, lo + 1, .. (n of them) -/
def Itr (lo : Int) (n : Nat) : It := ⟨fun i _ => i < n, fun i H x H' => H' = H ∧ x = .int (lo + i), fun i _ => n ≤ i⟩
theorem turn_list {P : Program} {w : World} {K : PySem.W.Frag} {tg : Expr} (a it : Addr) : Turn P w K tg (Itl K a) [it] it (fun i h => h.IsListIter it a i) where
  mem := by simp
  obj := fun i h st b hb => by
    have e : b = it := by simpa using hb
    subst e
    obtain ⟨o, e, c, d⟩ := st
    exact ⟨o, e, fun v z => by rw [d] at z; cases z⟩
  keep := fun i h h' st k => st.at fun o e => k it (by simp) o e
  item := by
    intro X hP hw hK hc i pins s σ H E I hf st hg
    subst hP hw hK
    obtain ⟨xs, x, hq, hx⟩ := hg
    obtain ⟨its, rv, p, hz⟩ := I.list hq
    obtain ⟨u, hu, ru⟩ := rv.get hx
    obtain ⟨f0, f1, f2, f3, f4, f5⟩ := hf it (by simp)
    refine wpAny_pyNext_list_item st p.isList (x := u) (by simpa using hu) fun h' st' sb => ?_
    have I1 : Inv X pins σ H { s with heap := h' } := I.turned (t' := s.toks) (fun b o hb e => (sb.2 b hb).trans e) f0 f1 f3 f4 f5
    obtain ⟨o, e, c, d⟩ := id st'
    exact ⟨u, rfl, go_of (s := { s with heap := h' }) e c d (by decide) ⟨x, H, I1, ru, ⟨rfl, fun ys hy => by rw [I.list_inj hy hq]; exact hx⟩, st', fun b hb => (hf b hb).1⟩⟩
  done := by
    intro X hP hw hK hc i pins s σ H E I hf st hg
    subst hP hw hK
    obtain ⟨xs, hq, hx⟩ := hg
    obtain ⟨its, rv, p, hz⟩ := I.list hq
    obtain ⟨f0, f1, f2, f3, f4, f5⟩ := hf it (by simp)
    have hl := rv.length
    exact wpAny_pyNext_list_end (I.ok.hd hc) st p.isList (by simp; omega) fun h' eb => ⟨rfl, I.turned (t' := s.toks) (fun b o hb e => eb b o hb e) f0 f1 f3 f4 f5⟩
  self := fun _ _ _ _ _ st h => wpAny_pyIter_listiter st h
theorem turn_tuple {P : Program} {w : World} {K : PySem.W.Frag} {tg : Expr} (a it : Addr) : Turn P w K tg (Itt K a) [it] it (fun i h => h.IsTupleIter it a i) where
  mem := by simp
  obj := fun i h st b hb => by
    have e : b = it := by simpa using hb
    subst e
    obtain ⟨o, e, c, d⟩ := st
    exact ⟨o, e, fun v z => by rw [d] at z; cases z⟩
  keep := fun i h h' st k => st.at fun o e => k it (by simp) o e
  item := by
    intro X hP hw hK hc i pins s σ H E I hf st hg
    subst hP hw hK
    obtain ⟨xs, x, hq, hx⟩ := hg
    obtain ⟨its, rv, p, hz⟩ := I.tuple hq
    obtain ⟨u, hu, ru⟩ := rv.get hx
    obtain ⟨f0, f1, f2, f3, f4, f5⟩ := hf it (by simp)
    refine wpAny_pyNext_tuple_item st (show s.heap.IsTuple a its.toArray from p) (x := u) (by simpa using hu) fun h' st' sb => ?_
    have I1 : Inv X pins σ H { s with heap := h' } := I.turned (t' := s.toks) (fun b o hb e => (sb.2 b hb).trans e) f0 f1 f3 f4 f5
    obtain ⟨o, e, c, d⟩ := id st'
    exact ⟨u, rfl, go_of (s := { s with heap := h' }) e c d (by decide) ⟨x, H, I1, ru, ⟨rfl, fun ys hy => by rw [I.tuple_inj hy hq]; exact hx⟩, st', fun b hb => (hf b hb).1⟩⟩
  done := by
    intro X hP hw hK hc i pins s σ H E I hf st hg
    subst hP hw hK
    obtain ⟨xs, hq, hx⟩ := hg
    obtain ⟨its, rv, p, hz⟩ := I.tuple hq
    obtain ⟨f0, f1, f2, f3, f4, f5⟩ := hf it (by simp)
    have hl := rv.length
    exact wpAny_pyNext_tuple_end (I.ok.hd hc) st (show s.heap.IsTuple a its.toArray from p) (by simp; omega) fun h' eb => ⟨rfl, I.turned (t' := s.toks) (fun b o hb e => eb b o hb e) f0 f1 f3 f4 f5⟩
  self := fun _ _ _ _ _ st h => wpAny_pyIter_tupleiter st h
theorem turn_range {P : Program} {w : World} {K : PySem.W.Frag} {tg : Expr} (it : Addr) (lo : Int) (n : Nat) : Turn P w K tg (Itr lo n) [it] it (fun i h => IsRangeIter h it (lo + (i : Nat) * 1) ((n : Int) - (i : Nat)) 1) where
  mem := by simp
  obj := fun i h st b hb => by
    have e : b = it := by simpa using hb
    subst e
    exact ⟨_, st, fun v z => by
      have z' : Data.fields _ = Data.cell v := z
      cases z'⟩
  keep := fun i h h' st k => k it (by simp) _ st
  item := by
    intro X hP hw hK hc i pins s σ H E I hf st hg
    subst hP hw hK
    obtain ⟨f0, f1, f2, f3, f4, f5⟩ := hf it (by simp)
    have W := Walks.range (prog := X.prog) (w := X.w) (I.ok.hd hc) it lo 1 n
    refine W.item i s _ _ hg st fun v h' tk hv st' kk => ?_
    obtain ⟨t, rfl⟩ := hv
    have I1 : Inv X pins σ H { s with heap := h', toks := tk } := I.turned (fun b o hb e => kk b o (by simpa using hb) e) f0 f1 f3 f4 f5
    refine ⟨_, rfl, go_of (s := { s with heap := h', toks := tk }) (n := "range_iterator") st' rfl rfl (by decide) ⟨.int (lo + i), H, I1, ⟨t, ?_⟩, ⟨rfl, rfl⟩, st', fun b hb => (hf b hb).1⟩⟩
    rw [Int.mul_one]
  done := by
    intro X hP hw hK hc i pins s σ H E I hf st hg
    subst hP hw hK
    obtain ⟨f0, f1, f2, f3, f4, f5⟩ := hf it (by simp)
    exact wpAny_pyNext_range_end (I.ok.hd hc) st (by have : n ≤ i := hg; omega) fun h' eb => ⟨rfl, I.turned (t' := s.toks) (fun b o hb e => eb b o hb e) f0 f1 f3 f4 f5⟩
  self := fun _ _ _ _ _ st h => wpAny_pyIter_rangeiter st h
end L2

namespace L2
open PySem PySem.Spec PyProof.Rows
section
variable {X : Cx} {tg : Expr}
def iList (K : PySem.W.Frag) (tl : TE) : TI := fun σ H R => tl σ H fun x H1 => ∃ a, x = .ref a ∧ (∃ xs, SqL K H1 a xs) ∧ R (Itl K a) H1
def iTup (K : PySem.W.Frag) (tl : TE) : TI := fun σ H R => tl σ H fun x H1 => ∃ a, x = .ref a ∧ (∃ xs, SqT K H1 a xs) ∧ R (Itt K a) H1
theorem pi_list {l : Expr} {tl : TE} (hl : PE X l tl) : PI X tg l (iList X.K tl) := by
  intro pins s σ H R I h
  refine thn (hl pins s σ H _ I h) fun v s1 ⟨x, H1, I1, r1, q1⟩ => ?_
  obtain ⟨a, e, ⟨xs, hq⟩, q⟩ := q1
  subst e
  cases r1
  obtain ⟨its, rv, p, hz⟩ := I1.list hq
  refine wpAny_pyIter_list p.isList ?_
  refine ⟨s1.heap.objs.size, [s1.heap.objs.size], _, _, H1, rfl, I1.kept (t' := s1.toks) fun b o e => Heap.get?_push_of_some _ e, turn_list a _, ⟨_, Heap.get?_push_size _ rfl, rfl, rfl⟩, fun b hb => ?_, q⟩
  have e : b = s1.heap.objs.size := by simpa using hb
  subst e
  exact I1.fpOk (Nat.le_refl _) (I1.hok.fresh (Nat.le_refl _))
theorem pi_tup {l : Expr} {tl : TE} (hl : PE X l tl) : PI X tg l (iTup X.K tl) := by
  intro pins s σ H R I h
  refine thn (hl pins s σ H _ I h) fun v s1 ⟨x, H1, I1, r1, q1⟩ => ?_
  obtain ⟨a, e, ⟨xs, hq⟩, q⟩ := q1
  subst e
  cases r1
  obtain ⟨its, rv, p, hz⟩ := I1.tuple hq
  refine wpAny_pyIter_tuple (show s1.heap.IsTuple a its.toArray from p) ?_
  refine ⟨s1.heap.objs.size, [s1.heap.objs.size], _, _, H1, rfl, I1.kept (t' := s1.toks) fun b o e => Heap.get?_push_of_some _ e, turn_tuple a _, ⟨_, Heap.get?_push_size _ rfl, rfl, rfl⟩, fun b hb => ?_, q⟩
  have e : b = s1.heap.objs.size := by simpa using hb
  subst e
  exact I1.fpOk (Nat.le_refl _) (I1.hok.fresh (Nat.le_refl _))
/-- a range object just made, walked -/
theorem range_it {pins : List (Addr × Obj)} {σ : St} {H : Hp} {s : Shared} {R : It → Hp → Prop} {E : Value → Shared → Prop} {lo hi : Int} {t u v : Tok} {tk : Nat} (I : Inv X pins σ H s) (h1 : -(2 ^ 62) ≤ lo) (h2 : lo < 2 ^ 62) (h3 : -(2 ^ 62) ≤ hi) (h4 : hi < 2 ^ 62)
    (q : R (Itr lo (hi - lo).toNat) H) : wpAny (model X.prog X.w) X.A (pyIter (.ref s.heap.objs.size)) (PIE X pins σ tg R) E { s with heap := s.heap.push { cls := .type "range", data := .fields #[.int lo t, .int hi u, .int 1 v] }, toks := tk } := by
  refine wpAny_pyIter_range (IsRange.new ..) (small_one h1 h2 h3 h4) ?_
  have I1 : Inv X pins σ H { s with heap := s.heap.push { cls := .type "range", data := .fields #[.int lo t, .int hi u, .int 1 v] }, toks := tk } := I.kept fun b o e => Heap.get?_push_of_some _ e
  refine ⟨(s.heap.push { cls := .type "range", data := .fields #[.int lo t, .int hi u, .int 1 v] }).objs.size, [(s.heap.push { cls := .type "range", data := .fields #[.int lo t, .int hi u, .int 1 v] }).objs.size], _, _, H, rfl,
    I1.kept (t' := tk) fun b o e => Heap.get?_push_of_some _ e, turn_range _ lo (hi - lo).toNat, ?_, fun b hb => ?_, q⟩
  · have e1 : lo + ((0 : Nat) : Int) * 1 = lo := by simp
    have e2 : (((hi - lo).toNat : Nat) : Int) - ((0 : Nat) : Int) = Builtin.Range.rangeSize lo hi 1 := by rw [rangeSize_one]; split <;> omega
    show IsRangeIter _ _ (lo + ((0 : Nat) : Int) * 1) ((((hi - lo).toNat : Nat) : Int) - ((0 : Nat) : Int)) 1
    rw [e1, e2]
    exact Heap.get?_push_size _ rfl
  · have e : b = (s.heap.push { cls := .type "range", data := .fields #[.int lo t, .int hi u, .int 1 v] }).objs.size := by simpa using hb
    subst e
    exact I1.fpOk (Nat.le_refl _) (I1.hok.fresh (Nat.le_refl _))
def iRng1 (ta : TA) : TI := fun σ H R => ta σ H fun vs H1 => ∃ j : Int, vs = [.int j] ∧ -(2 ^ 62) ≤ j ∧ j < 2 ^ 62 ∧ R (Itr 0 j.toNat) H1
theorem pi_range1 {a : Expr} {ta : TA} {p pos : Pos} (hg : Gl X "range") (hm : X.mg "range" = none) (ha : PA X [a] ta) (hs : starEach [a] X.env = [(false, eval a X.env)] := by rfl) : PI X tg (.Call (.Name "range" p) [a] [] pos) (iRng1 ta) := by
  intro pins s σ H R I h
  refine Call_ (ld_blt I hg hm boot_range (PyProof.Rows.callWith_type1 (thn (ha pos pins s σ H _ I h) fun us s1 ⟨vs, H1, I1, r1, q1⟩ => ?_) hs rfl))
  obtain ⟨j, e, q1, q2, q⟩ := q1
  subst e
  cases r1 with
  | cons r rr =>
    cases rr
    obtain ⟨t, rfl⟩ := r
    exact call_range_1 (range_it I1 (by omega) (by omega) q1 q2 (by simpa using q))
/-! ### for -/
/-- W: the invariant by the turn and a measure; N: what the body is to reach -/
def tFor (wi : TI) (g : TG) (tb : TS) : TS := fun D σ H => wi σ H fun J H1 => ∃ W : Nat → Nat → St → Hp → Prop, (∃ m, W 0 m σ H1) ∧ ∀ i m σ H, W i m σ H →
  (J.stop i H ∧ D.nx σ H) ∨ (J.go i H ∧ ∃ N : St → Hp → Prop, (∀ σ' H', N σ' H' → ∃ m', m' < m ∧ W (i + 1) m' σ' H') ∧ ∀ x H', J.yld i H x H' → g x σ H' fun σ2 H2 => tb { D with nx := N, ct := N, bk := D.nx } σ2 H2)
/-- the records at fp as they stand -/
def pinsAt (fp : List Addr) (h : Heap) : List (Addr × Obj) := fp.filterMap fun b => (h.get? b).map fun o => (b, o)
theorem mem_pinsAt {fp : List Addr} {h : Heap} {b : Addr} {o : Obj} (hb : b ∈ fp) (e : h.get? b = some o) : (b, o) ∈ pinsAt fp h := List.mem_filterMap.mpr ⟨b, hb, by rw [e]; rfl⟩
theorem of_pinsAt {fp : List Addr} {h : Heap} {p : Addr × Obj} (hp : p ∈ pinsAt fp h) : p.1 ∈ fp ∧ h.get? p.1 = some p.2 := by
  obtain ⟨b, hb, e⟩ := List.mem_filterMap.mp hp
  cases q : h.get? b with
  | none => rw [q] at e; cases e
  | some o =>
    rw [q] at e
    have e' : (b, o) = p := Option.some.inj e
    subst e'
    exact ⟨hb, q⟩
theorem Inv.pinned {pins : List (Addr × Obj)} {σ : St} {H : Hp} {s : Shared} {fp : List Addr} (I : Inv X pins σ H s) (hf : ∀ b ∈ fp, FpOk X pins H b) (ho : ∀ b ∈ fp, ∃ o, s.heap.get? b = some o ∧ ∀ v, o.data ≠ .cell v) : Inv X (pins ++ pinsAt fp s.heap) σ H s :=
  I.pins_of fun p hp => (List.mem_append.mp hp).elim (fun z => I.pin p (List.mem_append_right _ z)) fun z => by
    obtain ⟨hb, e⟩ := of_pinsAt z
    obtain ⟨f0, f1, f2, _⟩ := hf p.1 hb
    obtain ⟨o, e', d⟩ := ho p.1 hb
    rw [e] at e'; cases e'
    exact ⟨e, f0, f1, f2, d⟩
theorem Inv.unpinned {pins pl : List (Addr × Obj)} {σ : St} {H : Hp} {s : Shared} (I : Inv X (pins ++ pl) σ H s) : Inv X pins σ H s := I.pins_of fun p hp => I.pin p (List.mem_append_right _ (List.mem_append_left _ hp))
theorem ps_for {iter : Expr} {body : List Stmt} {wi : TI} {g : TG} {tb : TS} {pos : Pos} (hp : PassesOwn (model X.prog X.w) X.A X.env X.xe) (hc : X.calm = true) (hi : PI X tg iter wi) (hg : PG X tg g) (hb : PSs X body tb)
    (hs : ∀ x, foldedSetIterable iter X.env x = pure x := by intro _; rfl) : PS X (.For tg iter body [] pos) (tFor wi g tb) := by
  intro pins s σ H D I h
  refine wpAny_For (thn (hi pins s σ H _ I h) fun v s1 h1 => thn h1 fun itv s2 h2 => ?_) hs
  obtain ⟨it, fp, tn, J, H2, e, I2, T, st2, f2, W, ⟨m0, w0⟩, turn⟩ := h2
  subst e
  -- what stays true of the iterator's objects through the loop
  have stat : ∀ {H' : Hp}, (∀ b ∈ fp, H' b = none) → ∀ b ∈ fp, FpOk X pins H' b := fun hn b hb => ⟨hn b hb, (f2 b hb).2⟩
  refine codeAny_forLoop_any (fun n s' => ∃ i σ' H', Inv X pins σ' H' s' ∧ tn i s'.heap ∧ (∀ b ∈ fp, H' b = none) ∧ W i n σ' H') ?_ m0 ⟨0, σ, H2, I2, st2, fun b hb => (f2 b hb).1, w0⟩
  rintro n s3 ⟨i, σ3, H3, I3, st3, fr3, w3⟩
  rcases turn i n σ3 H3 w3 with ⟨stop, qn⟩ | ⟨go, N, hN, step⟩
  · refine wpAny_passesOwn hp (thn (T.done X rfl rfl rfl hc i pins s3 σ3 H3 X.xe I3 (stat fr3) st3 stop) fun r s4 ⟨hr, I4⟩ => ?_)
    subst hr
    exact wpAny_execs_nil ⟨σ3, H3, I4, qn⟩
  · refine wpAny_passesOwn hp (thn (T.item X rfl rfl rfl hc i pins s3 σ3 H3 X.xe I3 (stat fr3) st3 go) fun r s4 ⟨u, hr, h4⟩ => ?_)
    subst hr
    refine wpAny_passesOwn hp (thn h4 fun _ s5 ⟨x, H5, I5, r5, y5, st5, fr5⟩ => ?_)
    have I5' := I5.pinned (stat fr5) (T.obj _ _ st5)
    refine wpAny_passesOwn hp (thn (hg _ s5 σ3 H5 x u _ I5' r5 (step x H5 y5)) fun _ s6 ⟨σ6, H6, I6, q6⟩ => ?_)
    refine wpAny_passesOwn hp (thn (hb _ s6 σ6 H6 _ I6 q6) fun f s7 q7 => ?_)
    have again : ∀ {σ7 : St} {H7 : Hp}, Inv X (pins ++ pinsAt fp s5.heap) σ7 H7 s7 → N σ7 H7 → ∃ m, m < n ∧ ∃ i σ' H', Inv X pins σ' H' s7 ∧ tn i s7.heap ∧ (∀ b ∈ fp, H' b = none) ∧ W i m σ' H' := fun {σ7 H7} I7 n7 => by
      obtain ⟨m', hm, w7⟩ := hN σ7 H7 n7
      refine ⟨m', hm, i + 1, σ7, H7, I7.unpinned, T.keep _ _ _ st5 fun b hb o e => (I7.pin (b, o) (List.mem_append_right _ (List.mem_append_right _ (mem_pinsAt hb e)))).1, fun b hb => ?_, w7⟩
      obtain ⟨o, e, d⟩ := T.obj _ _ st5 b hb
      exact (I7.pin (b, o) (List.mem_append_right _ (List.mem_append_right _ (mem_pinsAt hb e)))).2.1
    cases f with
    | next => obtain ⟨σ7, H7, I7, n7⟩ := q7; exact again I7 n7
    | cont => obtain ⟨σ7, H7, I7, n7⟩ := q7; exact again I7 n7
    | brk => obtain ⟨σ7, H7, I7, q7⟩ := q7; exact ⟨σ7, H7, I7.unpinned, q7⟩
    | ret v => obtain ⟨x7, σ7, H7, I7, r7, q7⟩ := q7; exact ⟨x7, σ7, H7, I7.unpinned, r7, q7⟩
end

/-! ### the forms one uses -/
/-- over a list that the body leaves as it is -/
theorem for_list {K : PySem.W.Frag} {a : Addr} {xs : List V} {g : TG} {tb : TS} {D : Ends} {σ : St} {H : Hp} (Pv : Nat → St → Hp → Prop) (h0 : Pv 0 σ H) (hl : ∀ i σ H, i ≤ xs.length → Pv i σ H → SqL K H a xs)
    (hs : ∀ i x σ H, xs[i]? = some x → Pv i σ H → g x σ H fun σ2 H2 => tb { D with nx := Pv (i + 1), ct := Pv (i + 1), bk := D.nx } σ2 H2) (hd : ∀ σ H, Pv xs.length σ H → D.nx σ H) :
    ∃ W : Nat → Nat → St → Hp → Prop, (∃ m, W 0 m σ H) ∧ ∀ i m σ H, W i m σ H →
      ((Itl K a).stop i H ∧ D.nx σ H) ∨ ((Itl K a).go i H ∧ ∃ N : St → Hp → Prop, (∀ σ' H', N σ' H' → ∃ m', m' < m ∧ W (i + 1) m' σ' H') ∧ ∀ x H', (Itl K a).yld i H x H' → g x σ H' fun σ2 H2 => tb { D with nx := N, ct := N, bk := D.nx } σ2 H2) := by
  refine ⟨fun i m σ H => m = xs.length - i ∧ i ≤ xs.length ∧ Pv i σ H, ⟨xs.length, by simp, Nat.zero_le _, h0⟩, ?_⟩
  rintro i m σ H ⟨rfl, hi, p⟩
  have q := hl i σ H hi p
  by_cases hlt : i < xs.length
  · refine .inr ⟨⟨xs, xs[i], q, by simp [hlt]⟩, Pv (i + 1), fun σ' H' p' => ⟨xs.length - (i + 1), by omega, rfl, hlt, p'⟩, fun x H' y => ?_⟩
    obtain ⟨e, y⟩ := y
    subst e
    exact hs i x σ _ (y xs q) p
  · have e : i = xs.length := by omega
    subst e
    exact .inl ⟨⟨xs, q, Nat.le_refl _⟩, hd σ H p⟩
theorem for_tup {K : PySem.W.Frag} {a : Addr} {xs : List V} {g : TG} {tb : TS} {D : Ends} {σ : St} {H : Hp} (Pv : Nat → St → Hp → Prop) (h0 : Pv 0 σ H) (hl : ∀ i σ H, i ≤ xs.length → Pv i σ H → SqT K H a xs)
    (hs : ∀ i x σ H, xs[i]? = some x → Pv i σ H → g x σ H fun σ2 H2 => tb { D with nx := Pv (i + 1), ct := Pv (i + 1), bk := D.nx } σ2 H2) (hd : ∀ σ H, Pv xs.length σ H → D.nx σ H) :
    ∃ W : Nat → Nat → St → Hp → Prop, (∃ m, W 0 m σ H) ∧ ∀ i m σ H, W i m σ H →
      ((Itt K a).stop i H ∧ D.nx σ H) ∨ ((Itt K a).go i H ∧ ∃ N : St → Hp → Prop, (∀ σ' H', N σ' H' → ∃ m', m' < m ∧ W (i + 1) m' σ' H') ∧ ∀ x H', (Itt K a).yld i H x H' → g x σ H' fun σ2 H2 => tb { D with nx := N, ct := N, bk := D.nx } σ2 H2) := by
  refine ⟨fun i m σ H => m = xs.length - i ∧ i ≤ xs.length ∧ Pv i σ H, ⟨xs.length, by simp, Nat.zero_le _, h0⟩, ?_⟩
  rintro i m σ H ⟨rfl, hi, p⟩
  have q := hl i σ H hi p
  by_cases hlt : i < xs.length
  · refine .inr ⟨⟨xs, xs[i], q, by simp [hlt]⟩, Pv (i + 1), fun σ' H' p' => ⟨xs.length - (i + 1), by omega, rfl, hlt, p'⟩, fun x H' y => ?_⟩
    obtain ⟨e, y⟩ := y
    subst e
    exact hs i x σ _ (y xs q) p
  · have e : i = xs.length := by omega
    subst e
    exact .inl ⟨⟨xs, q, Nat.le_refl _⟩, hd σ H p⟩
theorem for_range {lo : Int} {n : Nat} {g : TG} {tb : TS} {D : Ends} {σ : St} {H : Hp} (Pv : Nat → St → Hp → Prop) (h0 : Pv 0 σ H)
    (hs : ∀ i σ H, i < n → Pv i σ H → g (.int (lo + i)) σ H fun σ2 H2 => tb { D with nx := Pv (i + 1), ct := Pv (i + 1), bk := D.nx } σ2 H2) (hd : ∀ σ H, Pv n σ H → D.nx σ H) :
    ∃ W : Nat → Nat → St → Hp → Prop, (∃ m, W 0 m σ H) ∧ ∀ i m σ H, W i m σ H →
      ((Itr lo n).stop i H ∧ D.nx σ H) ∨ ((Itr lo n).go i H ∧ ∃ N : St → Hp → Prop, (∀ σ' H', N σ' H' → ∃ m', m' < m ∧ W (i + 1) m' σ' H') ∧ ∀ x H', (Itr lo n).yld i H x H' → g x σ H' fun σ2 H2 => tb { D with nx := N, ct := N, bk := D.nx } σ2 H2) := by
  refine ⟨fun i m σ H => m = n - i ∧ i ≤ n ∧ Pv i σ H, ⟨n, by simp, Nat.zero_le _, h0⟩, ?_⟩
  rintro i m σ H ⟨rfl, hi, p⟩
  by_cases hlt : i < n
  · refine .inr ⟨hlt, Pv (i + 1), fun σ' H' p' => ⟨n - (i + 1), by omega, rfl, hlt, p'⟩, fun x H' y => ?_⟩
    obtain ⟨e, y⟩ := y
    subst e y
    exact hs i σ _ hlt p
  · have e : i = n := by omega
    subst e
    exact .inl ⟨Nat.le_refl _, hd σ H p⟩
/-- while, by a word and a measure of the state -/
theorem while_by {c : TT} {tb : TS} {D : Ends} {σ : St} {H : Hp} (Pv : St → Hp → Prop) (μ : St → Hp → Nat) (h0 : Pv σ H)
    (hs : ∀ σ H, Pv σ H → c σ H fun b H1 => if b = true then tb { D with nx := fun σ' H' => Pv σ' H' ∧ μ σ' H' < μ σ H, ct := fun σ' H' => Pv σ' H' ∧ μ σ' H' < μ σ H, bk := D.nx } σ H1 else D.nx σ H1)
    (mono : ∀ σ H Q Q', (∀ b H1, Q b H1 → Q' b H1) → c σ H Q → c σ H Q') : tWhile c tb D σ H := by
  refine ⟨fun m σ H => m = μ σ H ∧ Pv σ H, ⟨_, rfl, h0⟩, ?_⟩
  rintro m σ H ⟨rfl, p⟩
  refine mono σ H _ _ (fun b H1 q => ?_) (hs σ H p)
  cases b with
  | true => exact ⟨_, fun σ' H' ⟨p', l⟩ => ⟨_, l, rfl, p'⟩, q⟩
  | false => exact q
end L2

namespace L2
open PySem PySem.Spec PyProof.Rows

abbrev R2 := V → V → Hp → VK → Prop
/-- a two-place operation on values: f is binaryOp op, inplaceOp op or compareOp op -/
def OpR (X : Cx) (f : Value → Value → Sem Value) (r : R2) : Prop :=
  ∀ (pins : List (Addr × Obj)) (s : Shared) (σ : St) (H : Hp) (x y : V) (v u : Value) (Q : VK), Inv X pins σ H s → RelV x v → RelV y u → r x y H Q →
    wpAny (model X.prog X.w) X.A (f v u) (EP X pins σ Q) X.xe s
/-- a one-place operation -/
def UnR (X : Cx) (f : Value → Sem Value) (r : V → Hp → VK → Prop) : Prop :=
  ∀ (pins : List (Addr × Obj)) (s : Shared) (σ : St) (H : Hp) (x : V) (v : Value) (Q : VK), Inv X pins σ H s → RelV x v → r x H Q →
    wpAny (model X.prog X.w) X.A (f v) (EP X pins σ Q) X.xe s
/-- a call of a value that is known (a builtin, a type) with values -/
def CallR (X : Cx) (f : Value) (r : List V → Hp → VK → Prop) : Prop :=
  ∀ (pins : List (Addr × Obj)) (s : Shared) (σ : St) (H : Hp) (xs : List V) (us : List Value) (Q : VK), Inv X pins σ H s → Vals xs us → r xs H Q →
    wpAny (model X.prog X.w) X.A (call f us) (EP X pins σ Q) X.xe s
/-- a value's truth -/
def TruR (X : Cx) (r : V → Hp → (Bool → Hp → Prop) → Prop) : Prop :=
  ∀ (pins : List (Addr × Obj)) (s : Shared) (σ : St) (H : Hp) (x : V) (v : Value) (Q : Bool → Hp → Prop), Inv X pins σ H s → RelV x v → r x H Q →
    wpAny (model X.prog X.w) X.A (truthy v) (TP X pins σ Q) X.xe s

def tOp (r : R2) (ta tb : TE) : TE := fun σ H Q => ta σ H fun x H1 => tb σ H1 fun y H2 => r x y H2 Q
def tUn (r : V → Hp → VK → Prop) (ta : TE) : TE := fun σ H Q => ta σ H fun x H1 => r x H1 Q
/-- ints in, under C, and a value out -/
def rI (C : Int → Int → Prop) (g : Int → Int → V) : R2 := fun x y H Q => ∃ i j, x = .int i ∧ y = .int j ∧ C i j ∧ Q (g i j) H
def rI0 (g : Int → Int → V) : R2 := fun x y H Q => ∃ i j, x = .int i ∧ y = .int j ∧ Q (g i j) H
def rU (g : Int → V) : V → Hp → VK → Prop := fun x H Q => ∃ i, x = .int i ∧ Q (g i) H

section
variable {X : Cx} {a b c : Expr} {ta tb tc : TE} {pos : Pos}

theorem binT (ha : PE X a ta) (hb : PE X b tb) {pins : List (Addr × Obj)} {s : Shared} {σ : St} {H : Hp} {R : V → V → Hp → Prop} (I : Inv X pins σ H s)
    (h : ta σ H fun x H1 => tb σ H1 fun y H2 => R x y H2) {Q : Value → Shared → Prop} {f : Value → Value → Sem Value}
    (hf : ∀ v u s2 x y H2, Inv X pins σ H2 s2 → RelV x v → RelV y u → R x y H2 → wpAny (model X.prog X.w) X.A (f v u) Q X.xe s2) :
    wpAny (model X.prog X.w) X.A (eval a X.env) (fun v s₁ => wpAny (model X.prog X.w) X.A (eval b X.env) (fun u s₂ => wpAny (model X.prog X.w) X.A (f v u) Q X.xe s₂) X.xe s₁) X.xe s := by
  refine thn (ha pins s σ H _ I h) fun v s1 ⟨x, H1, I1, r1, q1⟩ => ?_
  refine thn (hb pins s1 σ H1 _ I1 q1) fun u s2 ⟨y, H2, I2, r2, q2⟩ => ?_
  exact hf v u s2 x y H2 I2 r1 r2 q2

theorem pe_op {op : Operator} {r : R2} (ho : OpR X (binaryOp op) r) (ha : PE X a ta) (hb : PE X b tb) : PE X (.BinOp a op b pos) (tOp r ta tb) := by
  intro pins s σ H Q I h
  exact wpAny_BinOp (binT ha hb I h fun v u s2 x y H2 I2 rx ry q => ho pins s2 σ H2 x y v u Q I2 rx ry q)
theorem pe_un {op : UnaryOp} {r : V → Hp → VK → Prop} (ho : UnR X (unaryOp op) r) (ha : PE X a ta) : PE X (.UnaryOp op a pos) (tUn r ta) := by
  intro pins s σ H Q I h
  exact UnaryOp_ (thn (ha pins s σ H _ I h) fun v s1 ⟨x, H1, I1, r1, q1⟩ => ho pins s1 σ H1 x v Q I1 r1 q1)
/-! ### ints -/
theorem opI {f : Value → Value → Sem Value} {C : Int → Int → Prop} {g : Int → Int → Int}
    (rule : ∀ (i j : Int) (t u : Tok) (s : Shared) (Q : Value → Shared → Prop) (E : Value → Shared → Prop), C i j → Q (.int (g i j) s.toks) { s with toks := s.toks + 1 } → wpAny (model X.prog X.w) X.A (f (.int i t) (.int j u)) Q E s) :
    OpR X f (rI C fun i j => .int (g i j)) := by
  intro pins s σ H x y v u Q I rx ry h
  obtain ⟨i, j, rfl, rfl, hc, q⟩ := h
  obtain ⟨t, rfl⟩ := rx
  obtain ⟨t', rfl⟩ := ry
  exact rule i j t t' s _ _ hc ⟨.int (g i j), H, I.tok _, ⟨_, rfl⟩, q⟩
theorem opI0 {f : Value → Value → Sem Value} {g : Int → Int → Int}
    (rule : ∀ (i j : Int) (t u : Tok) (s : Shared) (Q : Value → Shared → Prop) (E : Value → Shared → Prop), Q (.int (g i j) s.toks) { s with toks := s.toks + 1 } → wpAny (model X.prog X.w) X.A (f (.int i t) (.int j u)) Q E s) :
    OpR X f (rI0 fun i j => .int (g i j)) := by
  intro pins s σ H x y v u Q I rx ry h
  obtain ⟨i, j, rfl, rfl, q⟩ := h
  obtain ⟨t, rfl⟩ := rx
  obtain ⟨t', rfl⟩ := ry
  exact rule i j t t' s _ _ ⟨.int (g i j), H, I.tok _, ⟨_, rfl⟩, q⟩
theorem opB0 {f : Value → Value → Sem Value} {g : Int → Int → Bool}
    (rule : ∀ (i j : Int) (t u : Tok) (s : Shared) (Q : Value → Shared → Prop) (E : Value → Shared → Prop), Q (.bool (g i j)) s → wpAny (model X.prog X.w) X.A (f (.int i t) (.int j u)) Q E s) :
    OpR X f (rI0 fun i j => .bl (g i j)) := by
  intro pins s σ H x y v u Q I rx ry h
  obtain ⟨i, j, rfl, rfl, q⟩ := h
  obtain ⟨t, rfl⟩ := rx
  obtain ⟨t', rfl⟩ := ry
  exact rule i j t t' s _ _ ⟨.bl (g i j), H, I, rfl, q⟩

def CDiv (i j : Int) : Prop := 0 < j ∧ j < 1073741824
def CPow (i j : Int) : Prop := 0 ≤ j ∧ j ≤ 1000000 ∧ i.natAbs < 2 ^ 64
def CMul (i j : Int) : Prop := (-(2 ^ 64) < i ∧ i < 2 ^ 64) ∨ (-(2 ^ 64) < j ∧ j < 2 ^ 64)
theorem CMul.ok {i j : Int} (h : CMul i j) : IntMulOk i j := by
  rcases h with ⟨h1, h2⟩ | ⟨h1, h2⟩
  · exact .of_left (intBits_le_64 h1 h2)
  · exact .of_right (intBits_le_64 h1 h2)
theorem op_add : OpR X (binaryOp .Add) (rI0 fun i j => .int (i + j)) := opI0 fun _ _ _ _ _ _ _ q => add_int q
theorem op_sub : OpR X (binaryOp .Sub) (rI0 fun i j => .int (i - j)) := opI0 fun _ _ _ _ _ _ _ q => sub_int q
theorem op_mul : OpR X (binaryOp .Mult) (rI CMul fun i j => .int (i * j)) := opI fun _ _ _ _ _ _ _ hc q => mul_int q hc.ok
/-- // by a positive divisor -/
theorem op_fdiv : OpR X (binaryOp .FloorDiv) (rI CDiv fun i j => .int (i / j)) := opI fun i j _ _ _ _ _ hc q => by
  have h1 : (0 : Int) < j := hc.1
  have h2 : j < 1073741824 := hc.2
  exact floordiv_int (by omega) (by rw [Int.fdiv_eq_ediv_of_nonneg i (by omega)]; exact q) (.inl (PyProof.noPylong_small (by omega)))
/-- % by a positive divisor of any size -/
theorem op_mod : OpR X (binaryOp .Mod) (rI (fun _ j => 0 < j) fun i j => .int (i % j)) := opI fun i j _ _ _ _ _ hc q => by
  have h1 : (0 : Int) < j := hc
  exact mod_int' (by omega) (by rw [Int.fmod_eq_emod_of_nonneg i (by omega)]; exact q)
theorem op_pow : OpR X (binaryOp .Pow) (rI CPow fun i j => .int (i ^ j.toNat)) := opI fun _ _ _ _ _ _ _ hc q => pow_int_small hc.1 hc.2.1 hc.2.2 q
theorem unI {f : Value → Sem Value} {g : Int → Int}
    (rule : ∀ (i : Int) (t : Tok) (s : Shared) (Q : Value → Shared → Prop) (E : Value → Shared → Prop), Q (.int (g i) s.toks) { s with toks := s.toks + 1 } → wpAny (model X.prog X.w) X.A (f (.int i t)) Q E s) :
    UnR X f (rU fun i => .int (g i)) := by
  intro pins s σ H x v Q I rx h
  obtain ⟨i, rfl, q⟩ := h
  obtain ⟨t, rfl⟩ := rx
  exact rule i t s _ _ ⟨.int (g i), H, I.tok _, ⟨_, rfl⟩, q⟩
theorem un_neg : UnR X (unaryOp .USub) (rU fun i => .int (-i)) := unI fun _ _ _ _ _ q => neg_int q
/-! ### bools among ints: n += (a < b) -/
end

/-! ### comparisons -/
/-- the scalars that == tells apart as data does -/
def scal : V → V → Bool
  | .non, .non => true | .non, .int _ => true | .int _, .non => true | .non, .bl _ => true | .bl _, .non => true | .non, .str _ => true | .str _, .non => true
  | .int _, .int _ => true | .bl _, .bl _ => true | .str _, .str _ => true | .byt _, .byt _ => true
  | .int _, .str _ => true | .str _, .int _ => true | .bl _, .str _ => true | .str _, .bl _ => true
  | _, _ => false
def rEq : R2 := fun x y H Q => scal x y = true ∧ Q (.bl (decide (x = y))) H
theorem dec_int {i j : Int} : decide (V.int i = V.int j) = (i == j) := by
  rw [Bool.eq_iff_iff]
  simp
theorem dec_bl {i j : Bool} : decide (V.bl i = V.bl j) = (i == j) := by
  rw [Bool.eq_iff_iff]
  simp
theorem dec_str {i j : Str} : decide (V.str i = V.str j) = (i == j) := by
  rw [Bool.eq_iff_iff]
  simp
theorem dec_byt {i j : Array UInt8} : decide (V.byt i = V.byt j) = (i.toList == j.toList) := by
  rw [Bool.eq_iff_iff]
  cases i
  cases j
  simp

section
variable {X : Cx} {a b c : Expr} {ta tb tc : TE} {pos : Pos}
theorem fin_bl {pins : List (Addr × Obj)} {σ : St} {H : Hp} {s : Shared} {Q : VK} {k k' : Bool} (I : Inv X pins σ H s) (q : Q (.bl k) H) (e : k = k') : EP X pins σ Q (.bool k') s := by
  subst e
  exact ⟨.bl k, H, I, rfl, q⟩
theorem op_eq : OpR X (compareOp .Eq) rEq := by
  intro pins s σ H x y v u Q I rx ry h
  obtain ⟨hs, q⟩ := h
  cases x with
  | non =>
    cases rx
    cases y with
    | non => cases ry; exact PySem.EqNone.eq_none_none (fin_bl I q (by simp))
    | bl j => cases ry; exact PySem.EqNone.eq_none_bool (fin_bl I q (by simp))
    | int j => obtain ⟨t', rfl⟩ := ry; exact PySem.EqNone.eq_none_int (fin_bl I q (by simp))
    | str j => obtain ⟨t', rfl⟩ := ry; exact PySem.EqNone.eq_none_str (fin_bl I q (by simp))
    | _ => exact absurd (show false = true from hs) Bool.false_ne_true
  | bl i =>
    cases rx
    cases y with
    | non => cases ry; exact PySem.EqNone.eq_bool_none (fin_bl I q (by simp))
    | bl j => cases ry; exact eq_bool (fin_bl I q dec_bl)
    | str j => obtain ⟨t', rfl⟩ := ry; exact PySem.EqMixed.eq_bool_str (fin_bl I q (by simp))
    | _ => exact absurd (show false = true from hs) Bool.false_ne_true
  | int i =>
    obtain ⟨t, rfl⟩ := rx
    cases y with
    | non => cases ry; exact PySem.EqNone.eq_int_none (fin_bl I q (by simp))
    | int j => obtain ⟨t', rfl⟩ := ry; exact eq_int (fin_bl I q dec_int)
    | str j => obtain ⟨t', rfl⟩ := ry; exact PySem.EqMixed.eq_int_str (fin_bl I q (by simp))
    | _ => exact absurd (show false = true from hs) Bool.false_ne_true
  | str i =>
    obtain ⟨t, rfl⟩ := rx
    cases y with
    | non => cases ry; exact PySem.EqNone.eq_str_none (fin_bl I q (by simp))
    | bl j => cases ry; exact PySem.EqMixed.eq_str_bool (fin_bl I q (by simp))
    | int j => obtain ⟨t', rfl⟩ := ry; exact PySem.EqMixed.eq_str_int (fin_bl I q (by simp))
    | str j => obtain ⟨t', rfl⟩ := ry; exact eq_str (fin_bl I q dec_str)
    | _ => exact absurd (show false = true from hs) Bool.false_ne_true
  | byt i =>
    obtain ⟨t, rfl⟩ := rx
    cases y with
    | byt j => obtain ⟨t', rfl⟩ := ry; exact PySem.W.eq_bytes (fin_bl I q dec_byt)
    | _ => exact absurd (show false = true from hs) Bool.false_ne_true
  | _ => cases y <;> exact absurd (show false = true from hs) Bool.false_ne_true
theorem op_lt : OpR X (compareOp .Lt) (rI0 fun i j => .bl (decide (i < j))) := opB0 fun _ _ _ _ _ _ _ q => lt_int q
theorem op_le : OpR X (compareOp .LtE) (rI0 fun i j => .bl (decide (i ≤ j))) := opB0 fun _ _ _ _ _ _ _ q => le_int q
theorem op_gt : OpR X (compareOp .Gt) (rI0 fun i j => .bl (decide (j < i))) := opB0 fun _ _ _ _ _ _ _ q => gt_int q
theorem op_ge : OpR X (compareOp .GtE) (rI0 fun i j => .bl (decide (j ≤ i))) := opB0 fun _ _ _ _ _ _ _ q => ge_int q
theorem nomark (b : Expr) {op : CmpOp} (h : op ≠ .In := by decide) (h2 : op ≠ .NotIn := by decide) : behindInMarks op b = false := by
  have e1 : (op == CmpOp.In) = false := by cases op <;> first | rfl | exact absurd rfl h
  have e2 : (op == CmpOp.NotIn) = false := by cases op <;> first | rfl | exact absurd rfl h2
  cases b <;> simp [behindInMarks, e1, e2]
/-- a comparison as a value; hm: nomark b, or (for in, not in) by with_unfolding_all rfl -/
theorem pe_cmpR {op : CmpOp} {r : R2} (ho : OpR X (compareOp op) r) (ha : PE X a ta) (hb : PE X b tb) (hm : behindInMarks op b = false) : PE X (.Compare a [op] [b] pos) (tOp r ta tb) := by
  intro pins s σ H Q I h
  exact wpAny_Compare1 (binT ha hb I h fun v u s2 x y H2 I2 rx ry q => ho pins s2 σ H2 x y v u Q I2 rx ry q) hm
/-- a reading of a value as a test -/
def tTest (t : TE) : TT := fun σ H Q => t σ H fun x H' => ∃ k, x = .bl k ∧ Q k H'
theorem pt_cmpR {op : CmpOp} {r : R2} (ho : OpR X (compareOp op) r) (ha : PE X a ta) (hb : PE X b tb) (hm : behindInMarks op b = false) : PT X (.Compare a [op] [b] pos) (tTest (tOp r ta tb)) := by
  intro pins s σ H Q I h
  refine wpAny_isTrue_Compare1 (thn (ha pins s σ H _ I h) fun v s1 ⟨x, H1, I1, r1, q1⟩ => thn (hb pins s1 σ H1 _ I1 q1) fun u s2 ⟨y, H2, I2, r2, q2⟩ =>
    thn (ho pins s2 σ H2 x y v u _ I2 r1 r2 q2) fun c s3 ⟨z, H3, I3, r3, k, e, q3⟩ => ?_) hm
  subst e
  cases r3
  exact wpAny_truthy_bool ⟨H3, I3, q3⟩
/-- a op1 b op2 c -/
def tChain (r r' : R2) (ta tb tc : TE) : TE := fun σ H Q => ta σ H fun x H1 => tb σ H1 fun y H2 => r x y H2 fun z H3 => ∃ k, z = .bl k ∧
  (if k = true then tc σ H3 fun w' H4 => r' y w' H4 Q else Q (.bl false) H3)
theorem pe_chain {op op' : CmpOp} {r r' : R2} (ho : OpR X (compareOp op) r) (ho' : OpR X (compareOp op') r') (ha : PE X a ta) (hb : PE X b tb) (hc : PE X c tc)
    (hm : lastMarks [op, op'] [b, c] = false := by with_unfolding_all rfl) : PE X (.Compare a [op, op'] [b, c] pos) (tChain r r' ta tb tc) := by
  intro pins s σ H Q I h
  refine Compare_chain (thn (ha pins s σ H _ I h) fun v s1 ⟨x, H1, I1, r1, q1⟩ => chain_link (thn (hb pins s1 σ H1 _ I1 q1) fun u s2 ⟨y, H2, I2, r2, q2⟩ =>
    thn (ho pins s2 σ H2 x y v u _ I2 r1 r2 q2) fun d s3 ⟨z, H3, I3, r3, k, e, q3⟩ => ?_)) hm
  subst e
  cases r3
  refine wpAny_truthy_bool ?_
  cases k with
  | false => exact ite_ff ⟨.bl false, H3, I3, rfl, q3⟩
  | true => exact ite_tt (chain_last (thn (hc pins s3 σ H3 _ I3 q3) fun w' s4 ⟨z', H4, I4, r4, q4⟩ => ho' pins s4 σ H4 y z' u w' Q I4 r2 r4 q4))
/-! ### truth -/
/-- a value's truth by the abstract heap -/
def TruV (K : PySem.W.Frag) (x : V) (H : Hp) (k : Bool) : Prop :=
  match x with
  | .non => k = false
  | .bl b => k = b
  | .int i => k = (i != 0)
  | .str y => y.length ≤ sizeLine ∧ k = ((y.length : Int) != 0)
  | .byt y => y.size ≤ sizeLine ∧ k = ((y.size : Int) != 0)
  | .ref p => (∃ xs, SqL K H p xs ∧ k = !xs.isEmpty) ∨ (∃ xs, SqT K H p xs ∧ k = !xs.isEmpty) ∨ ∃ kvs, H p = some (.dK kvs) ∧ k = !kvs.isEmpty
  | _ => False
theorem isEmpty_kv {κ : Type} {kvs : List (κ × V)} {vs : List (κ × Value)} (r : KV kvs vs) : (!vs.isEmpty) = !kvs.isEmpty := by
  cases r <;> rfl
theorem isEmpty_of {xs : List V} {its : List Value} (r : Vals xs its) : (!its.toArray.isEmpty) = !xs.isEmpty := by
  cases r <;> simp
theorem line63 : (sizeLine : Nat) < 2 ^ 63 := by rw [sizeLine_eq]; decide
theorem tru_ok : TruR X (fun x H Q => ∃ k, TruV X.K x H k ∧ Q k H) := by
  intro pins s σ H x v Q I rx h
  obtain ⟨k, e, q⟩ := h
  have hl := line63
  have hs : sizeLine = 16777216 := sizeLine_eq
  cases x with
  | non =>
    cases rx
    have e' : k = false := e
    subst e'
    exact truthy_none ⟨H, I, q⟩
  | bl b =>
    cases rx
    have e' : k = b := e
    subst e'
    exact wpAny_truthy_bool ⟨H, I, q⟩
  | int i =>
    obtain ⟨t, rfl⟩ := rx
    have e' : k = (i != 0) := e
    subst e'
    exact PySem.P.truthy_int ⟨H, I, q⟩
  | str y =>
    obtain ⟨t, rfl⟩ := rx
    obtain ⟨hy, e'⟩ : y.length ≤ sizeLine ∧ k = ((y.length : Int) != 0) := e
    subst e'
    exact PySem.P.truthy_str (by omega) ⟨H, I.tok _, q⟩
  | byt y =>
    obtain ⟨t, rfl⟩ := rx
    obtain ⟨hy, e'⟩ : y.size ≤ sizeLine ∧ k = ((y.size : Int) != 0) := e
    subst e'
    exact PySem.W.truthy_bytes (by omega) ⟨H, I.tok _, q⟩
  | ref p =>
    cases rx
    have e' : (∃ xs, SqL X.K H p xs ∧ k = !xs.isEmpty) ∨ (∃ xs, SqT X.K H p xs ∧ k = !xs.isEmpty) ∨ ∃ kvs, H p = some (.dK kvs) ∧ k = !kvs.isEmpty := e
    rcases e' with ⟨xs, hx, e'⟩ | ⟨xs, hx, e'⟩ | ⟨kvs, hx, e'⟩
    · subst e'
      obtain ⟨its, r, pl, hz⟩ := I.list hx
      have hlen := r.length
      exact wpAny_truthy_list pl.isList (by simp only [List.size_toArray]; omega) ⟨H, I.tok _, by rw [isEmpty_of r]; exact q⟩
    · subst e'
      obtain ⟨its, r, pl, hz⟩ := I.tuple hx
      have hlen := r.length
      exact truthy_tuple pl (by simp only [List.size_toArray]; omega) ⟨H, I.tok _, by rw [isEmpty_of r]; exact q⟩
    · subst e'
      obtain ⟨hz, hS, vs, r, m⟩ : kvs.length ≤ sizeLine ∧ (p == sysModules) = false ∧ ∃ vs, KV kvs vs ∧ s.heap.DictOf (mixKind X.prog X.w) p vs := I.hok p _ hx
      have hlen : kvs.length = vs.length := Paired.length r
      exact wpAny_truthy_dict hS m (by omega) ⟨H, I.tok _, by rw [isEmpty_kv r]; exact q⟩
  | _ => exact (show False from e).elim
/-- any expression whose test is its value's truth (a name, a call, a subscript, a field ..: he by fun _ => rfl) -/
theorem pt_truth (ha : PE X a ta) (he : ∀ whole, isTrue a X.env whole = (do let v ← whole; standAt a.pos; holding [v] (truthy v))) :
    PT X a (fun σ H Q => ta σ H fun x H' => ∃ k, TruV X.K x H' k ∧ Q k H') := by
  intro pins s σ H Q I h
  exact isTrue_plain (thn (ha pins s σ H _ I h) fun v s1 ⟨x, H1, I1, r1, q1⟩ => tru_ok pins s1 σ H1 x v Q I1 r1 q1) (he _)

/-! ### strs and bytes -/
/-! ### scalar builtins, by CallR -/
theorem vals1 {x : V} {us : List Value} (r : Vals [x] us) : ∃ u, us = [u] ∧ RelV x u := by
  cases r with
  | cons r1 r2 => cases r2; exact ⟨_, rfl, r1⟩
theorem vals2 {x y : V} {us : List Value} (r : Vals [x, y] us) : ∃ u w', us = [u, w'] ∧ RelV x u ∧ RelV y w' := by
  cases r with
  | cons r1 r2 =>
    cases r2 with
    | cons r3 r4 => cases r4; exact ⟨_, _, rfl, r1, r3⟩
theorem call_max2 (hc : X.calm = true) : CallR X (.builtin "max") (fun xs H Q => ∃ i j, xs = [.int i, .int j] ∧ Q (.int (if j > i then j else i)) H) := by
  intro pins s σ H xs us Q I r h
  obtain ⟨i, j, rfl, q⟩ := h
  obtain ⟨u, w', rfl, ⟨t, rfl⟩, ⟨t', rfl⟩⟩ := vals2 r
  refine max_two_ints (I.ok.hd hc) fun h' tk k => ⟨_, H, I.kept k, ?_, q⟩
  by_cases hj : j > i
  · rw [if_pos hj, if_pos hj]; exact ⟨_, rfl⟩
  · rw [if_neg hj, if_neg hj]; exact ⟨_, rfl⟩
theorem call_min2 (hc : X.calm = true) : CallR X (.builtin "min") (fun xs H Q => ∃ i j, xs = [.int i, .int j] ∧ Q (.int (if j < i then j else i)) H) := by
  intro pins s σ H xs us Q I r h
  obtain ⟨i, j, rfl, q⟩ := h
  obtain ⟨u, w', rfl, ⟨t, rfl⟩, ⟨t', rfl⟩⟩ := vals2 r
  refine min_two_ints (I.ok.hd hc) fun h' tk k => ⟨_, H, I.kept k, ?_, q⟩
  by_cases hj : j < i
  · rw [if_pos hj, if_pos hj]; exact ⟨_, rfl⟩
  · rw [if_neg hj, if_neg hj]; exact ⟨_, rfl⟩
end
end L2

namespace L2
open PySem PySem.Spec PyProof.Rows

/-! ### an instance, its attributes a map -/
structure ObjM (h : Heap) (x dx C : Addr) (mA : Str → Option Value) : Prop where
  obj : h.get? x = some (PySem.W.instObj C dx)
  ns : h.Ns1 dx mA
  ne : dx ≠ x

theorem lookIn_ns {h : Heap} {dx : Addr} {mA : Str → Option Value} (n : h.Ns1 dx mA) : ∃ od, h.get? dx = some od ∧ ∀ name, PySem.W.lookIn name od = some (mA name) := by
  obtain ⟨o, es, ep, ho, hd, hk, _, hm⟩ := n
  refine ⟨o, ho, fun name => ?_⟩
  have e := hm name
  unfold nsFind findBy at e
  rw [← Array.find?_toList] at e
  unfold PySem.W.lookIn
  rw [hd]
  dsimp only
  split
  · rename_i y q
    rw [q] at e
    exact congrArg some e
  · rename_i q
    rw [q] at e
    have a : es.toList.any (·.refKey) = false := by
      rw [List.any_eq_false]
      intro y hy
      obtain ⟨z, t, hkey⟩ := hk y (Array.mem_toList_iff.mp hy)
      simp [DictEntry.refKey, hkey]
    have a' : ¬ es.toList.any (·.refKey) = true := by rw [a]; exact Bool.false_ne_true
    rw [if_neg a']
    exact congrArg some e

theorem ObjM.look {h : Heap} {x dx C : Addr} {mA : Str → Option Value} (I : ObjM h x dx C mA) : ∃ od, PySem.W.InstAt h x (PySem.W.instObj C dx) C (some od) ∧ ∀ name, PySem.W.lookIn name od = some (mA name) :=
  let ⟨od, ho, hl⟩ := lookIn_ns I.ns
  ⟨od, ⟨I.obj, rfl, rfl, ho⟩, hl⟩

section
variable {prog : Program} {w : World} {A : Around} {E : Value → Shared → Prop} {s : Shared} {K : PySem.W.Frag} {x dx C f : Addr} {mA : Str → Option Value} {name : Str} {v : Value}

end

/-! ### the attributes as a list of pairs -/
theorem RelO.none_of {o : Option Value} (r : RelO none o) : o = none := by
  cases o with
  | none => rfl
  | some u => exact (show False from r).elim
section
variable {P : Program} {w : World} {H H' : Hp} {h h' : Heap} {a C dx : Addr} {fs fs' : List (Str × V)}
theorem ins_get (hok : HOk P w H h) (e : H a = some (.ins C dx fs)) : ∃ mA, ObjM h a dx C mA ∧ (∀ f, RelO (fs.lookup f) (mA f)) ∧ PySem.Within mA (fs.map (·.1)) ∧ fs.length ≤ 1000 ∧ H dx = some (.own a) := by
  obtain ⟨d, z, ne, ob, mA, n, r, q⟩ := (show ObjOk P w H h a (.ins C dx fs) from hok a _ e)
  exact ⟨mA, ⟨ob, n, ne⟩, r, q, z, d⟩
end

/-! ### what of the text a class must have -/
structure Cls (K : PySem.W.Frag) (C : Addr) : Prop where
  pg : PySem.W.plainGet K C Str.empty = true
  hd : PySem.W.hasDictIn K C = true
  po : PySem.W.plainOver K C = true
  sa : PySem.W.findIn K (.ref C) "__setattr__" = some (some (.builtin "object.__setattr__"))
theorem Cls.get {K : PySem.W.Frag} {C : Addr} (c : Cls K C) (f : Str) : PySem.W.plainGet K C f = true := c.pg
/-- a constant of the class -/
structure Con (K : PySem.W.Frag) (C : Addr) (f : Str) (v : V) (u : Value) : Prop where
  at_ : PySem.W.findIn K (.ref C) f = some (some u)
  rel : RelV v u
  get : PySem.W.specialIn K u "__get__" = some none
  cp : PySem.W.copiedNames.contains f = false
/-- a method: a plain def of the class or of one above it -/
structure Meth (K : PySem.W.Frag) (C : Addr) (m : Str) (f : Addr) : Prop where
  at_ : PySem.W.findIn K (.ref C) m = some (some (.ref f))
  fn : PySem.W.isFn K (.ref f) = true
  kp : PySem.W.keepIn K (.ref f) = true

section
variable {X : Cx} {pins : List (Addr × Obj)} {σ : St} {H : Hp} {s : Shared} {a C dx : Addr} {fs : List (Str × V)} {f : Str} {v : V} {A : Around} {E : Value → Shared → Prop}

/-- a new instance, tracked, without attributes -/
theorem Inv.made (I : Inv X pins σ H s) : Inv X pins σ (upd (upd H s.heap.objs.size (.own (s.heap.objs.size + 1))) (s.heap.objs.size + 1) (.ins C s.heap.objs.size []))
    { s with heap := (s.heap.push PySem.W.emptyDict).push (PySem.W.instObj C s.heap.objs.size) } := by
  have e1 : (s.heap.push PySem.W.emptyDict).get? s.heap.objs.size = some PySem.W.emptyDict := Heap.get?_push_size s.heap rfl
  have e2 : ((s.heap.push PySem.W.emptyDict).push (PySem.W.instObj C s.heap.objs.size)).get? (s.heap.objs.size + 1) = some (PySem.W.instObj C s.heap.objs.size) := by
    have := Heap.get?_push_size (s.heap.push PySem.W.emptyDict) (o := PySem.W.instObj C s.heap.objs.size) rfl
    rwa [Heap.size_push] at this
  have e3 : (s.heap.push PySem.W.emptyDict).Ns s.heap.objs.size (fun _ => none) := ⟨PySem.W.emptyDict, #[], _, e1, rfl, (fun e he => absurd he (by simp)), fun _ => rfl⟩
  have I1 := I.laid (a := s.heap.objs.size) (o := .own (s.heap.objs.size + 1)) (h' := s.heap.push PySem.W.emptyDict) (t' := s.toks) (fun b u q => Heap.get?_push_of_some _ q) (Nat.le_refl _) ⟨_, e1⟩
  refine I1.laid (a := s.heap.objs.size + 1) (o := .ins C s.heap.objs.size []) (t' := s.toks) (fun b u q => Heap.get?_push_of_some _ q) (Nat.le_of_eq (Heap.size_push _ _)) ?_
  have ne : s.heap.objs.size ≠ s.heap.objs.size + 1 := Nat.ne_of_lt (Nat.lt_succ_self _)
  refine ⟨by rw [upd_ne ne, upd_same], Nat.zero_le _, ne, e2, fun _ => none, (Heap.Ns1.of_empty e3).at fun o q => Heap.get?_push_of_some _ q, fun _ => True.intro, fun y hy => absurd rfl hy⟩

end

/-! ### readings and rules -/
section
variable {X : Cx} {o e value : Expr} {f : Str} {pos pos' tpos : Pos} {ta tv : TE}
end

/-! ### isinstance -/
section
variable {X : Cx} {pins : List (Addr × Obj)} {σ : St} {H : Hp} {s : Shared} {A : Around} {E : Value → Shared → Prop} {Q : Value → Shared → Prop} {c : Value} {b : Bool}
/-- the type of a value, as the fragment's deciders take it; for an instance its class -/
inductive TyOf (K : PySem.W.Frag) (H : Hp) : V → Value → Prop where
  | non : TyOf K H .non (.type "NoneType")
  | bl (x : Bool) : TyOf K H (.bl x) (.type "bool")
  | int (i : Int) : TyOf K H (.int i) (.type "int")
  | str (x : Str) : TyOf K H (.str x) (.type "str")
  | flt (x : UInt64) : TyOf K H (.flt x) (.type "float")
  | lst {a : Addr} {xs : List V} (e : H a = some (.lst xs)) : TyOf K H (.ref a) (.type "list")
  | frz {a : Addr} {o : Obj} {xs : List V} (e : H a = some (.frz o (.lst xs))) : TyOf K H (.ref a) (.type "list")
  | tup {a : Addr} {xs : List V} (e : H a = some (.tup xs)) : TyOf K H (.ref a) (.type "tuple")
  | dK {a : Addr} {kvs : List (Key × V)} (e : H a = some (.dK kvs)) : TyOf K H (.ref a) (.type "dict")
  | dT {a : Addr} {kvs : List (List Key × V)} (e : H a = some (.dT kvs)) : TyOf K H (.ref a) (.type "dict")
  | ins {a C dx : Addr} {fs : List (Str × V)} (e : H a = some (.ins C dx fs)) (cl : Cls K C) (ha : PySem.W.findIn K (.ref C) "__class__" = some (some (.builtin "object.__class__")))
      (hn : PySem.W.specialIn K (.builtin "object.__class__") "__get__" = some (some (.builtin "getset_descriptor.__get__"))) (htk : PySem.W.takesIn K (.builtin "object.__class__") = some true)
      (hm : PySem.W.mroIn K C (.type "object") = some true) : TyOf K H (.ref a) (.ref C)
/-- isinstance(x, c) for one class c, a built-in or an own one: kitOne's answer -/
theorem isinst_ok {x : V} {u t : Value} (I : Inv X pins σ H s) (rx : RelV x u) (ty : TyOf X.K H x t) (e : PySem.W.kitOne X.K t c = some b) (h : ∀ tk, Q (.bool b) { s with toks := tk }) :
    wpAny (model X.prog X.w) A (call (.builtin "isinstance") [u, c]) Q E s := by
  cases ty with
  | non => cases (show u = Value.none from rx); exact PySem.W.kia_one PySem.W.kitx_none I.kIn True.intro e (fun z => nomatch z) h
  | bl y => cases (show u = Value.bool y from rx); exact PySem.W.kia_one PySem.W.kitx_bool I.kIn True.intro e (fun z => nomatch z) h
  | int i => obtain ⟨t, q⟩ := (show ∃ t, u = Value.int i t from rx); cases q; exact PySem.W.kia_one PySem.W.kitx_int I.kIn True.intro e (fun z => nomatch z) h
  | str y => obtain ⟨t, q⟩ := (show ∃ t, u = Value.str y t from rx); cases q; exact PySem.W.kia_one PySem.W.kitx_str I.kIn True.intro e (fun z => nomatch z) h
  | flt y => obtain ⟨t, q⟩ := (show ∃ t, u = Value.float y t from rx); cases q; exact PySem.W.kia_one PySem.W.kitx_float I.kIn True.intro e (fun z => nomatch z) h
  | @lst a xs ea =>
    cases (show u = Value.ref a from rx)
    obtain ⟨_, _, n, _, h1⟩ := (show ObjOk X.prog X.w H s.heap a (.lst xs) from I.hok a _ ea)
    exact PySem.W.kia_one PySem.W.kitx_list I.kIn ⟨_, h1, rfl⟩ e (fun z => nomatch z) h
  | @frz a ob xs ea =>
    cases (show u = Value.ref a from rx)
    obtain ⟨_, _, _, n, _, h1⟩ := (show ObjOk X.prog X.w H s.heap a (.frz ob (.lst xs)) from I.hok a _ ea)
    exact PySem.W.kia_one PySem.W.kitx_list I.kIn ⟨_, h1, rfl⟩ e (fun z => nomatch z) h
  | @tup a xs ea =>
    cases (show u = Value.ref a from rx)
    obtain ⟨_, _, _, p⟩ := (show ObjOk X.prog X.w H s.heap a (.tup xs) from I.hok a _ ea)
    obtain ⟨o, h1, h2, _⟩ := p
    exact PySem.W.kia_one PySem.W.kitx_tuple I.kIn ⟨o, h1, h2⟩ e (fun z => nomatch z) h
  | @dK a kvs ea =>
    cases (show u = Value.ref a from rx)
    obtain ⟨_, _, vs, _, p⟩ := (show ObjOk X.prog X.w H s.heap a (.dK kvs) from I.hok a _ ea)
    obtain ⟨o, es, ep, h1, h2, _⟩ := p
    exact PySem.W.kia_one PySem.W.kitx_dict I.kIn ⟨o, h1, h2.1⟩ e (fun z => nomatch z) h
  | @dT a kvs ea =>
    cases (show u = Value.ref a from rx)
    obtain ⟨_, _, xs, _, o, es, ep, h1, h2, _⟩ := (show ObjOk X.prog X.w H s.heap a (.dT kvs) from I.hok a _ ea)
    exact PySem.W.kia_one PySem.W.kitx_dict I.kIn ⟨o, h1, h2.1⟩ e (fun z => nomatch z) h
  | @ins a C dx fs ea cl ha hn htk hm =>
    cases (show u = Value.ref a from rx)
    obtain ⟨mA, O, _⟩ := ins_get I.hok ea
    obtain ⟨od, J, _⟩ := O.look
    exact PySem.W.kia_one (PySem.W.kitx_own (cl.get _) cl.hd ha hn htk hm) I.kIn J e (fun z => nomatch z) h
end
end L2

namespace L2
open PySem PySem.Spec PyProof.Rows

/-! ### room -/
structure Room (k : Nat) (A : Around) : Prop where
  hd : A.handled = none
  dp : A.depth + 3 * k + 5 < recursionLimit
  un : A.units + 16 * k + 200 < cLine
theorem Room.mono {j k : Nat} {A : Around} (r : Room k A) (h : j ≤ k) : Room j A := ⟨r.hd, by have := r.dp; omega, by have := r.un; omega⟩
theorem Room.deeper {k : Nat} {A : Around} (r : Room (k + 1) A) (env : Env) : Room k (A.deeper env) :=
  ⟨r.hd, by have := r.dp; show A.depth + 1 + 3 * k + 5 < _; omega, by have := r.un; show A.units + 3 + 16 * k + 200 < _; omega⟩
theorem Room.in1 {k : Nat} {A : Around} (r : Room (k + 1) A) : Room k A.in1 :=
  ⟨r.hd, by have := r.dp; show A.depth + 3 * k + 5 < _; omega, by have := r.un; show A.units + 1 + 16 * k + 200 < _; omega⟩
theorem Room.depth {k : Nat} {A : Around} (r : Room k A) : A.depth < recursionLimit := by have := r.dp; omega
theorem Room.units {k : Nat} {A : Around} (r : Room k A) : A.units + 64 < cLine := by have := r.un; omega
theorem Room.units0 {k : Nat} {A : Around} (r : Room k A) : A.units < cLine := by have := r.un; omega

/-! ### argument lists and displays -/
def tNil : TA := fun _ H Q => Q [] H
def tCons (ta : TE) (tr : TA) : TA := fun σ H Q => ta σ H fun x H1 => tr σ H1 fun xs H2 => Q (x :: xs) H2
section
variable {X : Cx} {e : Expr} {es : List Expr} {te : TE} {t : TA} {pos : Pos}
theorem pa_nil : PA X [] tNil := fun _ _ _ _ H Q I h => Calls.spliced_nil ⟨[], H, I, .nil, h⟩
theorem pa_cons (ha : PE X e te) (hr : PA X es t) (hs : starEach (e :: es) X.env = (false, eval e X.env) :: starEach es X.env := by rfl) : PA X (e :: es) (tCons te t) := by
  intro pos pins s σ H Q I h
  rw [hs]
  show wpAny _ _ (spliced ((false, eval e X.env) :: backTo pos (starEach es X.env))) _ _ s
  refine Calls.spliced_cons (thn (ha pins s σ H _ I h) fun u s1 ⟨x, H1, I1, r1, q1⟩ => ?_)
  exact thn (hr pos pins s1 σ H1 _ I1 q1) fun us s2 ⟨xs, H2, I2, r2, q2⟩ => ⟨x :: xs, H2, I2, .cons r1 r2, q2⟩

/-- a tuple, a list of written items -/
def tTup (t : TA) : TE := fun σ H Q => t σ H fun xs H1 => xs.length ≤ sizeLine ∧ ∀ p, H1 p = none → Q (.ref p) (upd H1 p (.tup xs))
def tLst (t : TA) : TE := fun σ H Q => t σ H fun xs H1 => xs.length ≤ sizeLine ∧ ∀ p, H1 p = none → Q (.ref p) (upd H1 p (.lst xs))
theorem pe_tup {x1} (h : PA X es t) : PE X (.Tuple es x1 pos) (tTup t) := by
  intro pins s σ H Q I hq
  refine wpAny_Tuple_spliced (thn (h pos pins s σ H _ I hq) fun us s1 ⟨xs, H1, I1, r, z, q⟩ => ⟨by rw [← r.length]; exact z, ?_⟩)
  have hf : H1 s1.heap.objs.size = none := I1.hok.fresh (Nat.le_refl _)
  refine ⟨.ref s1.heap.objs.size, upd H1 s1.heap.objs.size (.tup xs), I1.laid (t' := s1.toks) (fun b u e => Heap.get?_push_of_some _ e) (Nat.le_refl _) ?_, rfl, q _ hf⟩
  exact ⟨z, us, r, ⟨_, Heap.get?_push_size _ rfl, rfl, _, rfl⟩⟩
theorem pe_lst (h : PA X es t) : PE X (.List es pos) (tLst t) := by
  intro pins s σ H Q I hq
  refine wpAny_List_spliced (thn (h pos pins s σ H _ I hq) fun us s1 ⟨xs, H1, I1, r, z, q⟩ => ⟨by rw [← r.length]; exact z, ?_⟩)
  have hf : H1 s1.heap.objs.size = none := I1.hok.fresh (Nat.le_refl _)
  refine ⟨.ref s1.heap.objs.size, upd H1 s1.heap.objs.size (.lst xs), I1.laid (t' := s1.toks) (fun b u e => Heap.get?_push_of_some _ e) (Nat.le_refl _) ?_, rfl, q _ hf⟩
  exact ⟨z, us, 0, r, Heap.get?_push_size _ rfl⟩
end

/-! ### what a def promises -/
/-- a def's promise: the bound arguments in the parameters' order, the heap, the wanted end, the wanted exception -/
abbrev Sp := List V → Hp → VK → XK → Prop
/-- how an exception lies behind a call (file 08 gives it): the callers' frames, abstract heap and state ahead of the call, the wish, the exception, the state -/
abbrev CXT := List Env → Hp → Shared → XK → Value → Shared → Prop

/-- the state at a call -/
structure Env0 (P : Program) (w : World) (K : PySem.W.Frag) (mg : Str → Option Value) (base : Heap) (A : Around) (outer : List Env) (s : Shared) (H : Hp) : Prop where
  frames : A.frames = some outer
  mod : Mod K mg base
  bs : ∀ b o, base.get? b = some o → s.heap.get? b = some o ∧ H b = none
  bsz : base.objs.size ≤ s.heap.objs.size
  funs : s.heap.FunFrames base outer
  frf : ∀ b ∈ frs outer, H b = none
  hok : HOk P w H s.heap
  bare : AllBare s.gens
/-- a call's end -/
def CE (outer : List Env) (P : Program) (w : World) (H : Hp) (s : Shared) (Q : VK) (u : Value) (s' : Shared) : Prop :=
  ∃ v H', s'.os = s.os ∧ AllBare s'.gens ∧ Un (frs outer) [] H H' s.heap s'.heap ∧ HOk P w H' s'.heap ∧ RelV v u ∧ Q v H'
def CR (CX : CXT) (outer : List Env) (P : Program) (w : World) (H : Hp) (s : Shared) (Q : VK) (E : XK) (r : Result) (s' : Shared) : Prop :=
  match r with
  | .ok (.ret u) => CE outer P w H s Q u s'
  | .ok _ => False
  | .error e => CX outer H s E e s'
structure FnOk (P : Program) (w : World) (K : PySem.W.Frag) (mg : Str → Option Value) (base : Heap) (CX : CXT) (k : Nat) (f : Addr) (fd : FuncData) (ps : List Str) (sp : Sp) : Prop where
  len : ∀ vs H Q E, sp vs H Q E → vs.length = ps.length
  run : ∀ (A : Around) (outer : List Env) (s : Shared) (H : Hp) (args : Args) (us : List Value) (vs : List V) (Q : VK) (E : XK), Room k A → Env0 P w K mg base A outer s H → BindsTo s fd args (ps.zip us) → Vals vs us → sp vs H Q E →
    codeAny (model P w) A (.call (.ref f) args) (CR CX outer P w H s Q E) s
theorem FnOk.mono {P : Program} {w : World} {K : PySem.W.Frag} {mg : Str → Option Value} {base : Heap} {CX : CXT} {j k : Nat} {f : Addr} {fd : FuncData} {ps : List Str} {sp : Sp} (F : FnOk P w K mg base CX j f fd ps sp) (h : j ≤ k) :
    FnOk P w K mg base CX k f fd ps sp := ⟨F.len, fun A outer s H args us vs Q E hr => F.run A outer s H args us vs Q E (hr.mono h)⟩
/-- a weaker promise -/
theorem FnOk.imp {P : Program} {w : World} {K : PySem.W.Frag} {mg : Str → Option Value} {base : Heap} {CX : CXT} {k : Nat} {f : Addr} {fd : FuncData} {ps : List Str} {sp sp' : Sp} (F : FnOk P w K mg base CX k f fd ps sp)
    (h : ∀ vs H Q E, sp' vs H Q E → sp vs H Q E) : FnOk P w K mg base CX k f fd ps sp' :=
  ⟨fun vs H Q E q => F.len vs H Q E (h _ _ _ _ q), fun A outer s H args us vs Q E hr he hb hv hs => F.run A outer s H args us vs Q E hr he hb hv (h _ _ _ _ hs)⟩

theorem Env0.in1 {P : Program} {w : World} {K : PySem.W.Frag} {mg : Str → Option Value} {base : Heap} {A : Around} {outer : List Env} {s : Shared} {H : Hp} (e : Env0 P w K mg base A outer s H) :
    Env0 P w K mg base A.in1 outer s H := ⟨e.frames, e.mod, e.bs, e.bsz, e.funs, e.frf, e.hok, e.bare⟩

section
variable {X : Cx} {pins : List (Addr × Obj)} {σ : St} {H : Hp} {s s' : Shared}
/-- from a body: what a callee wants -/
theorem Inv.env0 (I : Inv X pins σ H s) : Env0 X.prog X.w X.K X.mg X.base X.A X.stack s H :=
  ⟨I.ok.frames, I.ok.mod, I.bs, Nat.le_trans I.ok.bsz I.sz, I.stack, I.stkFree, I.hok, I.bare⟩
/-- behind a call -/
theorem Inv.after {Q : VK} {u : Value} (I : Inv X pins σ H s) (h : CE X.stack X.prog X.w H s Q u s') : EP X pins σ Q u s' := by
  obtain ⟨v, H', os, bare, un, hok, r, q⟩ := h
  obtain ⟨hh, g, d, t, os'⟩ := s'
  obtain rfl : os' = s.os := os
  exact ⟨v, H', I.call (h' := hh) (g' := g) (d' := d) (t' := t) (ch := []) un hok bare (fun b z => absurd z (by simp)), r, q⟩
end

/-! ### calls -/
/-- f(..): the written arguments, then the defaults dvs; E: what is wanted of an exception -/
def tCall (sp : Sp) (dvs : List V) (E : XK) (t : TA) : TE := fun σ H Q => t σ H fun vs H1 => sp (vs ++ dvs) H1 Q E
/-- how the parameters are bound: us the positional arguments, kw the keywords' values by name, ds the defaults that fill up -/
def Binds (K : PySem.W.Frag) (fd : FuncData) (ps : List Str) (ds : List Value) : Prop :=
  ∀ (s : Shared) (us : List Value), K.In s.heap → (us ++ ds).length = ps.length → BindsTo s fd ⟨us, []⟩ (ps.zip (us ++ ds))
/-- every parameter is given -/
theorem Binds.all {K : PySem.W.Frag} {fd : FuncData} {ps : List Str} (h : ∀ us : List Value, us.length = ps.length → bindArgs fd ⟨us, []⟩ = pure (ps.zip us)) : Binds K fd ps [] := fun s us _ hl => by
  rw [List.append_nil] at hl ⊢
  exact .of_eq (h us hl)

/-- an exception of a callee reaches what this body wants of exceptions -/
def Passes (CX : CXT) (X : Cx) (E : XK) : Prop := ∀ (pins : List (Addr × Obj)) (σ : St) (H : Hp) (s : Shared) (e : Value) (s' : Shared), Inv X pins σ H s → CX X.stack H s E e s' → X.xe e s'

section
variable {X : Cx} {CX : CXT} {k : Nat} {f C : Addr} {fd : FuncData} {ps : List Str} {sp : Sp} {dvs : List V} {ds : List Value} {E : XK} {x m : Str} {p pos apos : Pos} {e o : Expr} {es : List Expr} {ta : TE} {t : TA}

/-- the callee runs -/
theorem run_fn {pins : List (Addr × Obj)} {σ : St} {H : Hp} {s : Shared} {Q : VK} {us : List Value} {vs : List V} (F : FnOk X.prog X.w X.K X.mg X.base CX k f fd ps sp) (hr : Room k X.A) (hb : Binds X.K fd ps ds) (hd : Vals dvs ds) (hx : Passes CX X E)
    (I : Inv X pins σ H s) (r : Vals vs us) (h : sp (vs ++ dvs) H Q E) : wpAny (model X.prog X.w) X.A (call (.ref f) us) (EP X pins σ Q) X.xe s := by
  have r2 : Vals (vs ++ dvs) (us ++ ds) := r.append hd
  have hl : (us ++ ds).length = ps.length := by rw [← r2.length]; exact F.len _ _ _ _ h
  refine wpAny_call (codeAny_mono (F.run X.A X.stack s H ⟨us, []⟩ (us ++ ds) (vs ++ dvs) Q E hr I.env0 (hb s us I.kIn hl) r2 h) fun r s' hq => ?_)
  cases r with
  | error e => exact hx pins σ H s e s' I hq
  | ok fl =>
    cases fl with
    | ret u => exact I.after hq
    | next => exact False.elim hq
    | brk => exact False.elim hq
    | cont => exact False.elim hq

theorem pe_call (F : FnOk X.prog X.w X.K X.mg X.base CX k f fd ps sp) (hr : Room k X.A) (hg : Gl X x) (hm : X.mg x = some (.ref f)) (hk : PySem.W.keepIn X.K (.ref f) = true) (hb : Binds X.K fd ps ds) (hd : Vals dvs ds) (hx : Passes CX X E)
    (ha : PA X (e :: es) t) (hdb : (x == ("__debug__" : Str)) = false := by decide) (he : starEach (e :: es) X.env = (false, eval e X.env) :: starEach es X.env := by rfl) (hpl : (backTo pos (starEach es X.env)).any (·.1) = false := by rfl) :
    PE X (.Call (.Name x p) (e :: es) [] pos) (tCall sp dvs E t) := by
  intro pins s σ H Q I h
  refine wpAny_Call_Name_kw (ld_glob I hg hm ?_ hdb)
  refine PySem.W.callWith_K (h₀ := X.base) I.ok.mod.kin hk (thn (ha pos pins s σ H _ I h) fun us s1 ⟨vs, H1, I1, r, q⟩ => ⟨I1.kIn, ?_⟩) he hpl
  exact run_fn F hr hb hd hx I1 r q
/-- what a class must have to be made -/
structure Mk (K : PySem.W.Frag) (C f : Addr) : Prop where
  makes : PySem.W.makesIn K C = true
  init : PySem.W.findIn K (.ref C) "__init__" = some (some (.ref f))
  fn : PySem.W.isFn K (.ref f) = true
  kp : PySem.W.keepIn K (.ref C) = true

end

/-! ### keywords -/
section
variable {X : Cx} {CX : CXT} {k : Nat} {f C : Addr} {fd : FuncData} {ps ks : List Str} {sp : Sp} {E : XK} {x m : Str} {p pos apos kpos : Pos} {e o : Expr} {es : List Expr} {kws : List Keyword} {te ta : TE} {t tk : TA} {nm : Option Str}
/-- how a call with keywords binds: g puts the positional values us and the keywords' values ws (names ks) in the parameters' order, defaults among them -/
structure KBinds (K : PySem.W.Frag) (fd : FuncData) (ps ks : List Str) (g : List Value → List Value → List Value) (gV : List V → List V → List V) : Prop where
  to : ∀ (s : Shared) (us ws : List Value), K.In s.heap → (g us ws).length = ps.length → BindsTo s fd ⟨us, ks.zip ws⟩ (ps.zip (g us ws))
  rel : ∀ {vs : List V} {us : List Value} {zs : List V} {ws : List Value}, Vals vs us → Vals zs ws → Vals (gV vs zs) (g us ws)
variable {g : List Value → List Value → List Value} {gV : List V → List V → List V}
end

/-! ### a def's body keeps its promise -/
/-- names: the parameters first -/
structure FnScope (N P : List Str) (sc : Scope) : Prop where
  kind : sc.kind = .function
  co : sc.isCoroutine = false
  gen : sc.isGenerator = false
  nd : N.Nodup
  pre : N.take P.length = P
  par : ∀ x ∈ P, sc.names.lookup x = some .local ∨ sc.names.lookup x = some .cell
  nofree : ∀ y ∈ sc.names, y.2 ≠ .free

theorem bindL_out {kindOf : Str → Option NameKind} {x : Str} : ∀ {binds : List (Str × Value)} {m : Str → Option Value}, (∀ v, (x, v) ∉ binds) → bindL kindOf binds m x = m x
  | [], _, _ => rfl
  | (n, v) :: r, m, h => by
    unfold bindL
    rw [bindL_out fun w hw => h w (List.mem_cons_of_mem _ hw)]
    split
    · have : x ≠ n := by rintro rfl; exact h v List.mem_cons_self
      simp [this]
    · rfl
theorem bindC_out {kindOf : Str → Option NameKind} {x : Str} : ∀ {binds : List (Str × Value)} {m : Str → Option Value}, (∀ v, (x, v) ∉ binds) → bindC kindOf binds m x = m x
  | [], _, _ => rfl
  | (n, v) :: r, m, h => by
    unfold bindC
    rw [bindC_out fun w hw => h w (List.mem_cons_of_mem _ hw)]
    split
    · rfl
    · have : x ≠ n := by rintro rfl; exact h v List.mem_cons_self
      simp [this]
theorem bindL_get {kindOf : Str → Option NameKind} {x : Str} {v : Value} : ∀ {P : List Str} {vs : List Value} {i : Nat} {m : Str → Option Value}, P.Nodup → P[i]? = some x → vs[i]? = some v → kindOf x = some .local →
    bindL kindOf (P.zip vs) m x = some v
  | [], _, _, _, _, h, _, _ => by simp at h
  | _ :: _, [], _, _, _, _, h, _ => by simp at h
  | p :: P, w :: vs, 0, m, nd, h1, h2, hk => by
    simp at h1 h2; subst h1; subst h2
    show bindL kindOf ((p, w) :: P.zip vs) m p = _
    unfold bindL
    rw [bindL_out fun v hv => (List.nodup_cons.mp nd).1 (List.of_mem_zip hv).1, if_pos hk]
    simp
  | p :: P, w :: vs, i + 1, m, nd, h1, h2, hk => by
    show bindL kindOf ((p, w) :: P.zip vs) m x = _
    unfold bindL
    exact bindL_get (i := i) (List.nodup_cons.mp nd).2 (by simpa using h1) (by simpa using h2) hk
theorem bindC_get {kindOf : Str → Option NameKind} {x : Str} {v : Value} : ∀ {P : List Str} {vs : List Value} {i : Nat} {m : Str → Option Value}, P.Nodup → P[i]? = some x → vs[i]? = some v → kindOf x ≠ some .local →
    bindC kindOf (P.zip vs) m x = some v
  | [], _, _, _, _, h, _, _ => by simp at h
  | _ :: _, [], _, _, _, _, h, _ => by simp at h
  | p :: P, w :: vs, 0, m, nd, h1, h2, hk => by
    simp at h1 h2; subst h1; subst h2
    show bindC kindOf ((p, w) :: P.zip vs) m p = _
    unfold bindC
    rw [bindC_out fun v hv => (List.nodup_cons.mp nd).1 (List.of_mem_zip hv).1, if_neg hk]
    simp
  | p :: P, w :: vs, i + 1, m, nd, h1, h2, hk => by
    show bindC kindOf ((p, w) :: P.zip vs) m x = _
    unfold bindC
    exact bindC_get (i := i) (List.nodup_cons.mp nd).2 (by simpa using h1) (by simpa using h2) hk

/-- the names' values at the entry -/
def start (N : List Str) (vs : List V) : St := vs.map some ++ List.replicate (N.length - vs.length) none

/-- the context of a def's body, at its entry; an exception leaves the frame, then lies as CX says -/
def cxOf (CX : CXT) (P : Program) (w : World) (K : PySem.W.Frag) (mg : Str → Option Value) (base : Heap) (N : List Str) (qual : Str) (scope : Scope) (f : Addr) (cd : Value) (A : Around) (outer : List Env) (s : Shared) (H : Hp) (E : XK) : Cx where
  prog := P
  w := w
  K := K
  mg := mg
  base := base
  A := A.deeper (envOfC qual scope s.heap.objs.size f cd)
  N := N
  s₀ := s
  H₀ := H
  env := envOfC qual scope s.heap.objs.size f cd
  outer := outer
  stack := envOfC qual scope s.heap.objs.size f cd :: outer
  ex := []
  calm := true
  fn := fun _ => true
  pn := []
  xe := fun e s' => wpAny (model P w) (A.deeper (envOfC qual scope s.heap.objs.size f cd)) (leaving (envOfC qual scope s.heap.objs.size f cd) e) (fun _ s'' => CX outer H s E e s'') (fun e' s'' => CX outer H s E e' s'') s'

theorem cell_has {sc : Scope} {n : Nat} {x : Str} (h : sc.names.lookup x = some .cell) : ∃ c, (cellsFrom n sc.names []).lookup x = some c := by
  have q := PySem.W.cellsFrom_some sc.names n [] (.inl h)
  exact Option.isSome_iff_exists.mp q

theorem inv_start {CX : CXT} {P : Program} {w : World} {K : PySem.W.Frag} {mg : Str → Option Value} {base : Heap} {N ps : List Str} {qual : Str} {scope : Scope} {f : Addr} {cd : Value} {A : Around} {outer : List Env} {s s1 : Shared} {H : Hp} {E : XK} {us : List Value} {vs : List V}
    (S : FnScope N ps scope) (hd : A.handled = none) (e0 : Env0 P w K mg base A outer s H) (hl : vs.length = ps.length) (r : Vals vs us)
    (x : InCallC s s.heap.objs.size (bindL (envOfC qual scope s.heap.objs.size f cd).kindOf (ps.zip us) fun _ => none) (cellsFrom (s.heap.objs.size + 1) scope.names []) (bindC (envOfC qual scope s.heap.objs.size f cd).kindOf (ps.zip us) fun _ => none) s1) :
    Inv (cxOf CX P w K mg base N qual scope f cd A outer s H E) [] (start N vs) H s1 := by
  have hpl : ps.length ≤ N.length := by have := congrArg List.length S.pre; rw [List.length_take] at this; omega
  obtain ⟨h1, tk, rfl, hk⟩ := x.done
  have noA : ∀ b : Addr, b ∉ (cxOf CX P w K mg base N qual scope f cd A outer s H E).ex := fun b z => absurd (show b ∈ ([] : List Addr) from z) (by simp)
  refine ⟨⟨e0.mod, S.kind, rfl, rfl, Nat.le_refl _, fun y z c h1 h2 => ?_, fun y hy => ?_, fun y c _ h => ?_, fun _ => hd, Around.frames_deeper e0.frames, .inr ⟨rfl, rfl⟩, fun b z => absurd z (noA b), e0.bs, e0.bsz, fun b _ _ => noA b, fun b z => absurd z (noA b), e0.funs, e0.frf⟩,
    rfl, e0.bare, Un.kept hk, ⟨_, x.toInCall.ns, fun i y v h1 h2 h3 => ?_⟩, fun y c h => ⟨_, x.cell y c h⟩, e0.hok.fresh (Nat.le_refl _), fun y c h => ?_, fun p hp => absurd (show p ∈ ([] : List (Addr × Obj)) from hp) (by simp), e0.hok.kept hk, ?_⟩
  · exact name_of_addr x.apart (PySem.mem_of_lookup h1) (PySem.mem_of_lookup h2)
  · have hy : scope.names.lookup y = some .cell ∨ scope.names.lookup y = some .free := hy
    rcases hy with hy | hy
    · exact cell_has hy
    · exact absurd rfl (S.nofree _ (PySem.mem_of_lookup hy))
  · exact Nat.le_of_lt (x.above y c (PySem.mem_of_lookup h))
  · have hi : i < vs.length := by
      unfold start at h2
      by_cases hi : i < vs.length
      · exact hi
      · rw [List.getElem?_append_right (by simpa using hi)] at h2
        rw [List.getElem?_replicate] at h2
        split at h2 <;> cases h2
    have ha : vs[i]? = some v := by
      unfold start at h2
      rw [List.getElem?_append_left (by simpa using hi), List.getElem?_map] at h2
      cases e : vs[i]? with
      | none => rw [e] at h2; cases h2
      | some a => rw [e] at h2; cases h2; rfl
    obtain ⟨u, hu, rv⟩ := r.get ha
    have hp : ps[i]? = some y := by
      rw [← S.pre, List.getElem?_take_of_lt (by omega)]; exact h1
    have ndP : ps.Nodup := by rw [← S.pre]; exact S.nd.sublist (List.take_sublist _ _)
    refine ⟨u, rv, ?_⟩
    rcases S.par y (List.mem_of_getElem? hp) with k | k
    · exact .inl ⟨k, bindL_get ndP hp hu k⟩
    · obtain ⟨c, e⟩ := cell_has (n := s.heap.objs.size + 1) k
      refine .inr ⟨.inl k, c, e, ?_⟩
      have q := x.cell y c e
      rw [bindC_get ndP hp hu (by show scope.names.lookup y ≠ _; rw [k]; decide)] at q
      exact q
  · exact e0.hok.fresh (Nat.le_of_lt (x.above y c (PySem.mem_of_lookup h)))
  · unfold start
    show _ = N.length
    rw [List.length_append, List.length_map, List.length_replicate]
    omega

/-- THE RULE: a def (or a method) of the text, by its body. The body's reading t is chosen for each entry; it is run at the parameters' values -/
theorem fn_of {CX : CXT} {P : Program} {w : World} {K : PySem.W.Frag} {mg : Str → Option Value} {base : Heap} {k : Nat} {f : Addr} {name qual : Str} {params : Arguments} {body : List Stmt} {scope : Scope} {dV kV doc pm cdv ct oc : Value} {an od : Option Addr}
    {osl : Array (Option Value)} {N ps : List Str} {sp : Sp} (lk : K.lookup f = some ⟨oc, od, .func (PySem.W.fnOf name qual params body scope dV kV doc pm an cdv ct), osl⟩) (hcd : PySem.W.codeIn K cdv qual = true) (S : FnScope N ps scope)
    (len : ∀ vs H Q E, sp vs H Q E → vs.length = ps.length)
    (hbody : ∀ (A : Around) (outer : List Env) (s : Shared) (H : Hp) (vs : List V) (Q : VK) (E : XK), Room k (A.deeper (envOfC qual scope s.heap.objs.size f cdv)) → sp vs H Q E →
      ∃ t, PSs (cxOf CX P w K mg base N qual scope f cdv A outer s H E) body t ∧ t { nx := fun _ H' => Q .non H', rt := Q } (start N vs) H) :
    FnOk P w K mg base CX (k + 1) f (PySem.W.fnOf name qual params body scope dV kV doc pm an cdv ct) ps sp := by
  refine ⟨len, fun A outer s H args us vs Q E hr e0 hb r hsp => ?_⟩
  have hl := len _ _ _ _ hsp
  have KX : K.In s.heap := e0.mod.kin.keeps fun b o e => (e0.bs b o e).1
  have lim : s.heap.NoLimit := e0.mod.nolimit.keeps fun b o e => (e0.bs b o e).1
  have hkind : ∀ y ∈ ps.zip us, scope.names.lookup y.1 = some .local ∨ (scope.names.lookup y.1 = some .cell ∧ ((cellsFrom (s.heap.objs.size + 1) scope.names []).lookup y.1).isSome = true) := fun ⟨n, v⟩ hy => by
    rcases S.par n (List.of_mem_zip hy).1 with q | q
    · exact .inl q
    · exact .inr ⟨q, PySem.W.cellsFrom_some _ _ _ (.inl q)⟩
  refine codeAny_call_function hr.depth (KX _ _ lk) rfl S.co S.gen rfl (PySem.W.codeRec_of KX hcd) (hb _ _ _ _ ?_)
  refine wpAny_newFunctionEnv_cells S.kind hkind fun env he s1 x => ?_
  subst he
  refine ⟨lim.keeps x.toInCall.keep, codeAny_func ?_⟩
  obtain ⟨t, ht, hq⟩ := hbody A outer s H vs Q E (hr.deeper _) hsp
  have I : Inv (cxOf CX P w K mg base N qual scope f cdv A outer s H E) [] (start N vs) H s1 := inv_start S hr.hd e0 hl r x
  refine wpAny_mono (ht [] s1 (start N vs) H _ I hq) (fun fl s' hs => ?_) fun e s' hs => hs
  have fin : ∀ {σ' : St} {H' : Hp} {v : V} {u : Value}, Inv (cxOf CX P w K mg base N qual scope f cdv A outer s H E) [] σ' H' s' → RelV v u → Q v H' → CE outer P w H s Q u s' :=
    fun {σ' H' v u} J rv q => ⟨v, H', J.os, J.bare, J.base, J.hok, rv, q⟩
  cases fl with
  | ret u =>
    obtain ⟨v, σ', H', J, rv, q⟩ := hs
    exact fin J rv q
  | next =>
    obtain ⟨σ', H', J, q⟩ := hs
    exact fin (v := V.non) (u := Value.none) J rfl q
  | brk =>
    obtain ⟨_, _, _, q⟩ := hs
    exact False.elim q
  | cont =>
    obtain ⟨_, _, _, q⟩ := hs
    exact False.elim q
end L2

namespace L2
open PySem PySem.Spec PyProof.Rows
section
variable {X : Cx} {x : Str} {p pos : Pos} {e : Expr} {es : List Expr} {t : TA} {id T : String} {r : List V → Hp → VK → Prop}

def tCB (r : List V → Hp → VK → Prop) (t : TA) : TE := fun σ H Q => t σ H fun vs H1 => r vs H1 Q
/-- f(e, ..), f a built-in function -/
theorem pe_callB (hc : CallR X (.builtin id) r) (hg : Gl X x) (hm : X.mg x = none) (hv : bootBuiltins x = some (.builtin id)) (ha : PA X (e :: es) t) (hn : x ≠ "__name__" := by decide) (hdb : (x == ("__debug__" : Str)) = false := by decide)
    (he : starEach (e :: es) X.env = (false, eval e X.env) :: starEach es X.env := by rfl) (hpl : (backTo pos (starEach es X.env)).any (·.1) = false := by rfl) : PE X (.Call (.Name x p) (e :: es) [] pos) (tCB r t) := by
  intro pins s σ H Q I h
  refine wpAny_Call_Name_kw (ld_blt I hg hm hv ?_ hn hdb)
  exact PyProof.Rows.callWith_builtin1 (thn (ha pos pins s σ H _ I h) fun us s1 ⟨vs, H1, I1, r1, q1⟩ => hc pins s1 σ H1 vs us Q I1 r1 q1) he hpl
/-- T(e, ..), T a built-in type -/
theorem pe_callTy (hc : CallR X (.type T) r) (hg : Gl X x) (hm : X.mg x = none) (hv : bootBuiltins x = some (.type T)) (ha : PA X (e :: es) t) (hn : x ≠ "__name__" := by decide) (hdb : (x == ("__debug__" : Str)) = false := by decide)
    (he : starEach (e :: es) X.env = (false, eval e X.env) :: starEach es X.env := by rfl) (hpl : (backTo pos (starEach es X.env)).any (·.1) = false := by rfl) : PE X (.Call (.Name x p) (e :: es) [] pos) (tCB r t) := by
  intro pins s σ H Q I h
  refine wpAny_Call_Name_kw (ld_blt I hg hm hv ?_ hn hdb)
  exact PyProof.Rows.callWith_type1 (thn (ha pos pins s σ H _ I h) fun us s1 ⟨vs, H1, I1, r1, q1⟩ => hc pins s1 σ H1 vs us Q I1 r1 q1) he hpl
end
end L2

namespace HT
open PySem PyProof.Rows

section
open PySem.SeqAt
open PySem.AutoSeq1 (wpAny_loadPart')
open PySem.MeetsSeq PySem.MeetsSeq2 PySem.MeetsSeq3

end

section
variable {prog : Program} {w : World} {A : Around} {E : Value → Shared → Prop} {s : Shared}

/-! ### t[a:b], not the whole -/
/-- a slice's bound as a place among n (d where it is left out) -/
def sIx (n d : Nat) : Option Int → Nat
  | none => d
  | some v => if v < 0 then (v + (n : Int)).toNat else min v.toNat n
theorem sIx_none (n d : Nat) : sIx n d none = d := rfl
theorem sIx_nat (n d k : Nat) : sIx n d (some (k : Int)) = min k n := by
  show (if (k : Int) < 0 then ((k : Int) + (n : Int)).toNat else min (k : Int).toNat n) = min k n
  rw [if_neg (by omega), Int.toNat_natCast]
theorem sIx_le (n d : Nat) (hd : d ≤ n) (o : Option Int) : sIx n d o ≤ n := by
  cases o with
  | none => exact hd
  | some v =>
    show (if v < 0 then (v + (n : Int)).toNat else min v.toNat n) ≤ n
    by_cases hv : v < 0
    · rw [if_pos hv]; omega
    · rw [if_neg hv]; exact Nat.min_le_right _ _
theorem clip_eq (v : Int) (n d : Nat) : (if v < 0 then max (v + (n : Int)) 0 else min v (n : Int)) = ((sIx n d (some v) : Nat) : Int) := by
  show (if v < 0 then max (v + (n : Int)) 0 else min v (n : Int)) = (((if v < 0 then (v + (n : Int)).toNat else min v.toNat n) : Nat) : Int)
  by_cases hv : v < 0
  · simp only [if_pos hv]; omega
  · simp only [if_neg hv]; omega
theorem adjust_gen (lo hi : Option Int) (n : Nat) : Builtin.Slice.sliceAdjust lo hi 1 (n : Int) = (((sIx n 0 lo : Nat) : Int), ((sIx n n hi : Nat) : Int)) := by
  have h1 : ¬ ((1 : Int) < 0) := by omega
  unfold Builtin.Slice.sliceAdjust
  simp only [h1, if_false]
  refine Prod.ext ?_ ?_
  · cases lo with
    | none => rfl
    | some v => exact clip_eq v n 0
  · cases hi with
    | none => rfl
    | some v => exact clip_eq v n n
theorem places_gen (i j : Nat) : Builtin.Slice.slicePlaces (i : Int) (j : Int) 1 = j - i := by
  unfold Builtin.Slice.slicePlaces
  have h1 : (1 : Int) > 0 := by omega
  simp only [h1, if_true, Int.ediv_one]
  split <;> omega
theorem slicePart_ {v : Value} {o : Option Int} {Q : Option Int → Shared → Prop} (p : IsPart v o) (h : Q o s) : wpAny (model prog w) A (Builtin.Slice.slicePartIndex v) Q E s := by
  cases p with
  | none => exact slicePart_none h
  | int i t => exact slicePart_int h
theorem sliceApplied_gen {sl : Addr} {vl vu : Value} {lo hi : Option Int} {n : Nat} {Q : Int × Int × Nat → Shared → Prop} (hs : s.heap.IsSliceOf sl vl vu .none) (pl : IsPart vl lo) (pu : IsPart vu hi)
    (h : Q (((sIx n 0 lo : Nat) : Int), 1, sIx n n hi - sIx n 0 lo) s) : wpAny (model prog w) A (Builtin.Slice.sliceApplied (.ref sl) (pure (n : Int))) Q E s := by
  obtain ⟨os, hos, hcs, hds⟩ := id hs
  unfold Builtin.Slice.sliceApplied Builtin.Slice.sliceFields
  refine wpAny_bind (wpAny_bind (wpAny_field hos hds (x := vl) rfl (wpAny_bind (wpAny_field hos hds (x := vu) rfl (wpAny_bind (wpAny_field hos hds (x := .none) rfl (wpAny_pure ?_)))))))
  refine wpAny_bind (slicePart_none ?_)
  show wpAny _ _ (if ((1 : Int) == 0) = true then _ else _) _ _ s
  rw [if_neg (by decide)]
  refine wpAny_bind (slicePart_ pl (wpAny_bind (slicePart_ pu (wpAny_bind (wpAny_pure ?_)))))
  show wpAny _ _ (match Builtin.Slice.sliceAdjust lo hi 1 (n : Int) with | (lo, hi) => pure (lo, (1 : Int), Builtin.Slice.slicePlaces lo hi 1)) _ _ s
  rw [adjust_gen lo hi n]
  show wpAny _ _ (pure (((sIx n 0 lo : Nat) : Int), (1 : Int), Builtin.Slice.slicePlaces ((sIx n 0 lo : Nat) : Int) ((sIx n n hi : Nat) : Int) 1)) _ _ s
  rw [places_gen]
  exact wpAny_pure h
theorem pick_gen (xs : Array Value) (i k : Nat) : ((List.range k).filterMap fun (m : Nat) => xs[((i : Int) + (m : Int) * 1).toNat]?).toArray = ((xs.toList.drop i).take k).toArray := by
  have e : (fun (m : Nat) => xs[((i : Int) + (m : Int) * 1).toNat]?) = fun m => xs[i + m]? := by
    funext m
    have : ((i : Int) + (m : Int) * 1).toNat = i + m := by omega
    rw [this]
  rw [e]
  have := pick_run xs i k
  rw [List.filterMap_map] at this
  have e2 : ((fun x => xs[x]?) ∘ fun x => i + x) = fun m => xs[i + m]? := rfl
  rw [e2] at this
  rw [this]

theorem getItem_tuple_cut {t sl : Addr} {items : Array Value} {vl vu : Value} {lo hi : Option Int} {Q : Value → Shared → Prop} (ht : IsTup s.heap t items) (hs : s.heap.IsSliceOf sl vl vu .none) (pl : IsPart vl lo) (pu : IsPart vu hi)
    (hw : ¬ (sIx items.size 0 lo = 0 ∧ sIx items.size items.size hi = items.size))
    (h : Q (.ref s.heap.objs.size) { s with heap := s.heap.push { cls := .type "tuple", data := .seq ((items.toList.drop (sIx items.size 0 lo)).take (sIx items.size items.size hi - sIx items.size 0 lo)).toArray } })
    (hsz : items.size ≤ sizeLine) : wpAny (model prog w) A (getItem (.ref t) (.ref sl)) Q E s := by
  have htake : sizeOk (.seq ((items.toList.drop (sIx items.size 0 lo)).take (sIx items.size items.size hi - sIx items.size 0 lo)).toArray) := by
    show ((items.toList.drop (sIx items.size 0 lo)).take (sIx items.size items.size hi - sIx items.size 0 lo)).toArray.size ≤ sizeLine
    rw [List.size_toArray, List.length_take, List.length_drop, Array.length_toList]
    omega
  have hj : sIx items.size items.size hi ≤ items.size := sIx_le _ _ (Nat.le_refl _) hi
  obtain ⟨os, hos, hcs, hds⟩ := id hs
  have hTs : s.TypeIs (.ref sl) "slice" := ⟨os, hos, hcs⟩
  unfold getItem
  try with_reducible refine wpAny_holding ?_
  first | refine wpAny_bind (wpAny_pure ?_) | skip
  refine wpAny_bind (wpAny_sequenceKey ht.typeIs (by decide) ?_)
  refine wpAny_bind (wpAny_callSpecial?_slot (name := Str.ofString "__getitem__") ht.typeIs PyProof.Rows.slot_tuple_getitem
    (wpAny_call_entry PyProof.Rows.slot_tuple_getitem ht.typeIs entry_tuple_getitem ?_ (args_tuple_getitem _ _)))
  show wpAny _ _ (Builtin.Tuple.tupleItemsOf (.ref t) >>= _) _ _ s
  refine wpAny_bind (tupleItemsOf_ ht ?_)
  refine wpAny_bind (wpAny_typeOf hTs ?_)
  rw [if_pos (by decide)]
  refine wpAny_bind (sliceApplied_gen hs pl pu ?_)
  have hno : ¬ ((((sIx items.size 0 lo : Nat) : Int) == 0 && (1 : Int) == 1 && (sIx items.size items.size hi - sIx items.size 0 lo) == items.size) = true) := by
    intro q
    rw [Bool.and_eq_true, Bool.and_eq_true] at q
    have q1 : ((sIx items.size 0 lo : Nat) : Int) = 0 := eq_of_beq q.1.1
    have q2 : sIx items.size items.size hi - sIx items.size 0 lo = items.size := eq_of_beq q.2
    exact hw ⟨by omega, by omega⟩
  show wpAny _ _ (if (((sIx items.size 0 lo : Nat) : Int) == 0 && (1 : Int) == 1 && (sIx items.size items.size hi - sIx items.size 0 lo) == items.size) = true then _ else _) _ _ s
  rw [if_neg hno, pick_gen]
  first
    | exact wpAny_bind (m := Builtin.Tuple.tupleExact _) (wpAny_newObj_type (wpAny_pure ⟨_, rfl, wpAny_pure h⟩) htake)
    | exact wpAny_bind (m := Builtin.Tuple.tupleExact _) (wpAny_newObj_type (wpAny_bind (wpAny_pure (wpAny_pure ⟨_, rfl, wpAny_pure h⟩))) htake)
    | exact wpAny_bind (wpAny_bind (m := Builtin.Tuple.tupleExact _) (wpAny_newObj_type (wpAny_pure (wpAny_pure ⟨_, rfl, wpAny_pure h⟩)) htake))
    | exact wpAny_bind (wpAny_bind (m := Builtin.Tuple.tupleExact _) (wpAny_newObj_type (wpAny_pure ⟨_, rfl, wpAny_pure h⟩) htake))
end
end HT

namespace L2
open PySem PySem.Spec PyProof.Rows

/-! ### the parts of a slice -/
abbrev TO := St → Hp → (Option Int → Hp → Prop) → Prop
/-- a slice's part (left out, or an int) -/
def PO (X : Cx) (e : Option Expr) (t : TO) : Prop :=
  ∀ (pins : List (Addr × Obj)) (s : Shared) (σ : St) (H : Hp) (Q : Option Int → Hp → Prop), Inv X pins σ H s → t σ H Q →
    wpAny (model X.prog X.w) X.A (evalPart e X.env) (fun u s' => ∃ o H', Inv X pins σ H' s' ∧ IsPart u o ∧ Q o H') X.xe s
def tNoPart : TO := fun _ H Q => Q none H
def tPart (t : TE) : TO := fun σ H Q => t σ H fun x H1 => ∃ i, x = .int i ∧ Q (some i) H1

theorem intsAre_of {ns : List Int} : ∀ {us : List Value}, Vals (ns.map V.int) us → IntsAre us ns := by
  induction ns with
  | nil => intro us r; rw [List.map_nil] at r; cases r; exact .nil
  | cons n ns ih =>
    intro us r
    rw [List.map_cons] at r
    cases r with
    | cons r1 r2 =>
      obtain ⟨t, e⟩ := r1
      subst e
      exact .cons n t (ih r2)

section
variable {X : Cx} {e : Expr} {te : TE} {lo hi : Option Expr} {tl th : TO} {pos p2 : Pos}

theorem po_none : PO X none tNoPart := by
  intro pins s σ H Q I h
  rw [evalPart_none]
  exact wpAny_pure ⟨none, H, I, .none, h⟩
theorem po_some (h : PE X e te) : PO X (some e) (tPart te) := by
  intro pins s σ H Q I hw
  rw [evalPart_some]
  refine thn (h pins s σ H _ I hw) fun u s1 ⟨x, H1, I1, r1, q1⟩ => ?_
  obtain ⟨i, rfl, q⟩ := q1
  obtain ⟨t, rfl⟩ := r1
  exact ⟨some i, H1, I1, .int i t, q⟩

/-- what a slice of a value is, by values: the slice object stands at sl -/
def SlR (X : Cx) (r : V → Option Int → Option Int → Hp → VK → Prop) : Prop :=
  ∀ (pins : List (Addr × Obj)) (s : Shared) (σ : St) (H : Hp) (x : V) (v vl vu : Value) (lo hi : Option Int) (sl : Addr) (Q : VK), Inv X pins σ H s → RelV x v → s.heap.IsSliceOf sl vl vu .none → IsPart vl lo → IsPart vu hi → r x lo hi H Q →
    ∃ T id, typeLookup (.type T) "__getitem__" = pure (some (.builtin id)) ∧ s.TypeIs v T ∧ wpAny (model X.prog X.w) X.A (getItem v (.ref sl)) (EP X pins σ Q) X.xe s
def tSl (r : V → Option Int → Option Int → Hp → VK → Prop) (te : TE) (tl th : TO) : TE := fun σ H Q => te σ H fun x H1 => tl σ H1 fun l H2 => th σ H2 fun u H3 => r x l u H3 Q
/-- a[lo:hi], any a -/
theorem pe_slice {r : V → Option Int → Option Int → Hp → VK → Prop} (hr : SlR X r) (he : PE X e te) (hl : PO X lo tl) (hu : PO X hi th) : PE X (.Subscript e (.Slice lo hi none p2) pos) (tSl r te tl th) := by
  intro pins s σ H Q I h
  refine Subscript_ (thn (he pins s σ H _ I h) fun v s1 ⟨x, H1, I1, r1, q1⟩ => ?_)
  refine wpAny_Slice (thn (hl pins s1 σ H1 _ I1 q1) fun vl s2 ⟨l, H2, I2, pl, q2⟩ => thn (hu pins s2 σ H2 _ I2 q2) fun vu s3 ⟨u, H3, I3, pu, q3⟩ => ?_)
  rw [evalPart_none]
  refine wpAny_pure ?_
  have I4 : Inv X pins σ H3 { s3 with heap := s3.heap.push { cls := .type "slice", data := .fields #[vl, vu, .none] } } := I3.kept (t' := s3.toks) fun b ob q => Heap.get?_push_of_some _ q
  obtain ⟨T, id, hT, ht, hg⟩ := hr pins { s3 with heap := s3.heap.push { cls := .type "slice", data := .fields #[vl, vu, .none] } } σ H3 x v vl vu l u s3.heap.objs.size Q I4 r1 (Heap.IsSliceOf.new ..) pl pu q3
  show wpAny (model X.prog X.w) X.A (subscriptTail e (.Slice lo hi none p2) v (.ref s3.heap.objs.size)) (EP X pins σ Q) X.xe { s3 with heap := s3.heap.push { cls := .type "slice", data := .fields #[vl, vu, .none] } }
  exact tail_any (ops := [.ref s3.heap.objs.size, v]) ht hT hg (by with_unfolding_all rfl)

/-- the items of xs[lo:hi] -/
def cutV (xs : List V) (lo hi : Option Int) : List V := (xs.drop (HT.sIx xs.length 0 lo)).take (HT.sIx xs.length xs.length hi - HT.sIx xs.length 0 lo)
theorem cutV_length (xs : List V) (lo hi : Option Int) : (cutV xs lo hi).length ≤ xs.length := by
  unfold cutV
  rw [List.length_take, List.length_drop]
  omega
/-- t[lo:hi], not the whole of it (the whole would be t itself) -/
def rSlT (K : PySem.W.Frag) : V → Option Int → Option Int → Hp → VK → Prop := fun x lo hi H Q => ∃ a xs, x = .ref a ∧ SqT K H a xs ∧
  ¬ (HT.sIx xs.length 0 lo = 0 ∧ HT.sIx xs.length xs.length hi = xs.length) ∧ ∀ p, H p = none → Q (.ref p) (upd H p (.tup (cutV xs lo hi)))
theorem sl_tup : SlR X (rSlT X.K) := by
  intro pins s σ H x v vl vu lo hi sl Q I rx hs pl pu h
  obtain ⟨a, xs, rfl, hx, hw, q⟩ := h
  cases rx
  obtain ⟨its, r, ht, hz⟩ := I.tuple hx
  have hlen : its.toArray.size = xs.length := by rw [List.size_toArray]; exact r.length.symm
  refine ⟨"tuple", _, PyProof.Rows.slot_tuple_getitem.lookup, ht.typeIs, ?_⟩
  refine HT.getItem_tuple_cut ht hs pl pu (by rw [hlen]; exact hw) ?_ (by rw [hlen]; exact hz)
  rw [hlen]
  refine ⟨.ref s.heap.objs.size, _, I.laid (t' := s.toks) (o := .tup (cutV xs lo hi)) (fun b ob q => Heap.get?_push_of_some _ q) (Nat.le_refl _) ?_, rfl, q _ (I.hok.fresh (Nat.le_refl _))⟩
  exact ⟨Nat.le_trans (cutV_length xs lo hi) hz, _, (r.drop (HT.sIx xs.length 0 lo)).take (HT.sIx xs.length xs.length hi - HT.sIx xs.length 0 lo), IsTup.new _ _⟩

/-! ### t < u, t + u -/
end
end L2

namespace L2
open PySem PySem.Spec PyProof.Rows

/-! ### places -/
/-- the place that an index of any sign means -/
def ixN (n : Nat) (i : Int) : Option Nat := if 0 ≤ i then (if i < n then some i.toNat else none) else if -(n : Int) ≤ i then some (i + n).toNat else none
def atI {α : Type} (xs : List α) (i : Int) : Option α := (ixN xs.length i).bind fun j => xs[j]?
theorem ixN_seq {n : Nat} {i : Int} {j : Nat} (h : ixN n i = some j) : seqIndex? i n = some j ∧ j < n ∧ -(n : Int) ≤ i ∧ i < n := by
  unfold ixN at h
  by_cases h0 : 0 ≤ i
  · rw [if_pos h0] at h
    by_cases h1 : i < n
    · rw [if_pos h1] at h
      have e : i.toNat = j := Option.some.inj h
      exact ⟨by rw [seqIndex_of h0 h1, e], by omega, by omega, h1⟩
    · rw [if_neg h1] at h; cases h
  · rw [if_neg h0] at h
    by_cases h1 : -(n : Int) ≤ i
    · rw [if_pos h1] at h
      have e : (i + n).toNat = j := Option.some.inj h
      exact ⟨by rw [seqIndex_neg (by omega) h1, e], by omega, h1, by omega⟩
    · rw [if_neg h1] at h; cases h
theorem atI_get {α : Type} {xs : List α} {i : Int} {v : α} (h : atI xs i = some v) : ∃ j, seqIndex? i xs.length = some j ∧ xs[j]? = some v ∧ j < xs.length ∧ -(xs.length : Int) ≤ i ∧ i < xs.length := by
  unfold atI at h
  cases e : ixN xs.length i with
  | none => rw [e] at h; cases h
  | some j =>
    rw [e] at h
    obtain ⟨h1, h2, h3, h4⟩ := ixN_seq e
    exact ⟨j, h1, h, h2, h3, h4⟩
theorem atI_nat {α : Type} {xs : List α} {j : Nat} {v : α} (h : xs[j]? = some v) : atI xs (j : Int) = some v := by
  have hj : j < xs.length := (List.getElem?_eq_some_iff.mp h).1
  have e : ixN xs.length (j : Int) = some j := by
    unfold ixN
    rw [if_pos (by omega), if_pos (by omega)]; simp
  unfold atI; rw [e]; exact h
/-! ### what may be subscripted -/
/-- what stands as an index of a plain subscript -/
def PlainIx (b : Expr) : Prop := ∀ o i, subscripted b false o i = operate [o, i] (getItem o i)
/-- a subscript by values -/
def IxR (X : Cx) (r : R2) : Prop :=
  ∀ (value slice : Expr) (pins : List (Addr × Obj)) (s : Shared) (σ : St) (H : Hp) (x y : V) (v u : Value) (Q : VK), Inv X pins σ H s → RelV x v → RelV y u → r x y H Q →
    subscripted slice false v u = operate [v, u] (getItem v u) → wpAny (model X.prog X.w) X.A (subscriptTail value slice v u) (EP X pins σ Q) X.xe s
/-- a call of a builtin's method by values: the receiver, the arguments -/
def MtR (X : Cx) (id : String) (r : V → List V → Hp → VK → Prop) : Prop :=
  ∀ (pins : List (Addr × Obj)) (s : Shared) (σ : St) (H : Hp) (x : V) (xs : List V) (v : Value) (us : List Value) (Q : VK), Inv X pins σ H s → RelV x v → Vals xs us → r x xs H Q →
    wpAny (model X.prog X.w) X.A (call (.builtin id) (v :: us)) (EP X pins σ Q) X.xe s
section
variable {X : Cx} {a b : Expr} {ta tb : TE} {pos : Pos}
/-- a[b] -/
theorem pe_ix {r : R2} (hr : IxR X r) (ha : PE X a ta) (hb : PE X b tb) (hs : PlainIx b) : PE X (.Subscript a b pos) (tOp r ta tb) := by
  intro pins s σ H Q I h
  exact Subscript_ (binT ha hb I h fun v u s2 x y H2 I2 rx ry q => hr a b pins s2 σ H2 x y v u Q I2 rx ry q (hs _ _))

def rIxL (K : PySem.W.Frag) : R2 := fun x y H Q => ∃ p xs i v, x = .ref p ∧ y = .int i ∧ SqL K H p xs ∧ atI xs i = some v ∧ Q v H
def rIxT (K : PySem.W.Frag) : R2 := fun x y H Q => ∃ p xs i v, x = .ref p ∧ y = .int i ∧ SqT K H p xs ∧ atI xs i = some v ∧ Q v H
theorem ix_list : IxR X (rIxL X.K) := by
  intro value slice pins s σ H x y v u Q I rx ry h hs
  obtain ⟨p, xs, i, z, rfl, rfl, hq, he, q⟩ := h
  cases rx
  obtain ⟨t, rfl⟩ := ry
  obtain ⟨its, r, pl, hz⟩ := I.list hq
  obtain ⟨j, h1, h2, h3, h4, h5⟩ := atI_get he
  obtain ⟨w, ew, rw'⟩ := r.get h2
  have hl := r.length
  have hn := line63
  have fin : EP X pins σ Q w s := ⟨z, H, I, rw', q⟩
  by_cases h0 : 0 ≤ i
  · have hj : i.toNat = j := by
      rw [seqIndex_of h0 h5] at h1
      exact Option.some.inj h1
    exact item_listR pl.isList h0 (by omega) (by rw [hj]; simpa using ew) fin hs
  · have hj : (i + (its.toArray.size : Int)).toNat = j := by
      rw [seqIndex_neg (by omega) h4] at h1
      rw [List.size_toArray, ← hl]
      exact Option.some.inj h1
    exact subscriptTail_builtinR (x := w) pl.isList.typeIs slot_list_getitem.lookup
      (wpAny_getItem_list_neg (Q := fun r s' => r = w ∧ EP X pins σ Q r s') pl.isList (by omega) (by rw [List.size_toArray] <;> omega) (by omega) (by rw [hj]; simpa using ew) ⟨rfl, fin⟩) hs
theorem ix_tup : IxR X (rIxT X.K) := by
  intro value slice pins s σ H x y v u Q I rx ry h hs
  obtain ⟨p, xs, i, z, rfl, rfl, hq, he, q⟩ := h
  cases rx
  obtain ⟨t, rfl⟩ := ry
  obtain ⟨its, r, pl, hz⟩ := I.tuple hq
  obtain ⟨j, h1, h2, h3, h4, h5⟩ := atI_get he
  obtain ⟨w, ew, rw'⟩ := r.get h2
  have hl := r.length
  have hn := line63
  have fin : EP X pins σ Q w s := ⟨z, H, I, rw', q⟩
  exact subscriptTail_builtinR (x := w) pl.typeIs slot_tuple_getitem.lookup
    (getItem_tuple (j := j) (Q := fun r s' => r = w ∧ EP X pins σ Q r s') pl (by omega) (by omega) (by rw [List.size_toArray, ← hl]; exact h1) (by simpa using ew) ⟨rfl, fin⟩) hs
/-! ### xs[i] = v, any sign -/
/-- the list's object behind a store -/
theorem mapSeq_set (its : List Value) (n j : Nat) (u : Value) : Obj.mapSeq (·.setIfInBounds j u) { cls := .type "list", data := .seq its.toArray n } = { cls := .type "list", data := .seq (its.set j u).toArray n } := by
  simp [Obj.mapSeq]
theorem Inv.lst {pins : List (Addr × Obj)} {σ : St} {H : Hp} {s : Shared} {p : Addr} {xs : List V} (I : Inv X pins σ H s) (h : H p = some (.lst xs)) :
    ∃ (its : List Value) (n : Nat), Vals xs its ∧ s.heap.get? p = some { cls := .type "list", data := .seq its.toArray n } ∧ xs.length ≤ sizeLine := by
  obtain ⟨z, its, n, r, e⟩ := I.hok p _ h
  exact ⟨its, n, r, e, z⟩
/-- the list at p is written by an update of its object -/
theorem Inv.lstUpd {pins : List (Addr × Obj)} {σ : St} {H : Hp} {s : Shared} {p : Addr} {xs ys : List V} {its its' : List Value} {n n' : Nat} {f : Obj → Obj} (I : Inv X pins σ H s) (h : H p = some (.lst xs))
    (ho : s.heap.get? p = some { cls := .type "list", data := .seq its.toArray n }) (hf : f { cls := .type "list", data := .seq its.toArray n } = { cls := .type "list", data := .seq its'.toArray n' }) (r : Vals ys its') (hz : ys.length ≤ sizeLine) (t : Nat) :
    Inv X pins σ (upd H p (.lst ys)) { s with heap := s.heap.update p f, toks := t } := by
  have e : (s.heap.update p f).get? p = some { cls := .type "list", data := .seq its'.toArray n' } := by
    rw [Heap.get?_update_self f ho (by rw [hf] <;> rfl), hf]
  refine I.write (x := p) (e := p) (by rw [h]; trivial) (.inl rfl) (fun b u hb q => (Heap.get?_update_other _ _ (Ne.symm hb)).trans q) ⟨_, e⟩ ?_
  exact ⟨hz, its', n', r, e⟩
def rSetL : V → V → V → Hp → (Hp → Prop) → Prop := fun o i v H Q => ∃ p xs k j, o = .ref p ∧ i = .int k ∧ H p = some (.lst xs) ∧ ixN xs.length k = some j ∧ Q (upd H p (.lst (xs.set j v)))
theorem set_list : PSet X rSetL := by
  intro pins s σ H o i v ov iv u Q I ro ri rv h
  obtain ⟨p, xs, k, j, rfl, rfl, hp, hj, q⟩ := h
  cases ro
  obtain ⟨t, rfl⟩ := ri
  obtain ⟨its, n, r, ho, hz⟩ := I.lst hp
  obtain ⟨h1, h2, h3, h4⟩ := ixN_seq hj
  have hl := r.length
  have hn := line63
  have I' : Inv X pins σ (upd H p (.lst (xs.set j v))) { s with heap := s.heap.update p (Obj.mapSeq (·.setIfInBounds j u)) } :=
    I.lstUpd hp ho (mapSeq_set its n j u) (r.set rv j) (by rw [List.length_set]; exact hz) s.toks
  by_cases h0 : 0 ≤ k
  · have hk : k.toNat = j := by
      rw [seqIndex_of h0 h4] at h1
      exact Option.some.inj h1
    exact PySem.W.ki_setAt ho h0 (by omega) (by rw [List.size_toArray, ← hl]; exact h4) (by rw [hk]; exact ⟨_, I', q⟩)
  · have hk : (k + (its.toArray.size : Int)).toNat = j := by
      rw [seqIndex_neg (by omega) h3] at h1
      rw [List.size_toArray, ← hl]
      exact Option.some.inj h1
    exact PySem.W.ki_setBack ho (by omega) (by rw [List.size_toArray, ← hl]; exact h3) (by omega) (by rw [hk]; exact ⟨_, I', q⟩)

/-! ### slices -/
/-! ### in, not in: flat items -/
/-! ### len, list(x), tuple(x) of any list or tuple that is read -/
theorem call_len_seq : CallR X (.builtin "len") (fun xs H Q => ∃ p ys, xs = [.ref p] ∧ (SqL X.K H p ys ∨ SqT X.K H p ys) ∧ Q (.int ys.length) H) := by
  intro pins s σ H xs us Q I r h
  obtain ⟨p, ys, rfl, hq, q⟩ := h
  obtain ⟨u, rfl, rx⟩ := vals1 r
  cases rx
  have hn := line63
  rcases hq with hq | hq
  · obtain ⟨its, r', pl, hz⟩ := I.list hq
    have hlen := r'.length
    exact Calls.call_len_list pl.isList (by simp only [List.size_toArray] <;> omega) ⟨.int ys.length, H, I.tok _, ⟨s.toks + 1, by rw [List.size_toArray, hlen]⟩, q⟩
  · obtain ⟨its, r', pl, hz⟩ := I.tuple hq
    have hlen := r'.length
    exact len_tuple pl (by simp only [List.size_toArray] <;> omega) ⟨.int ys.length, H, I.tok _, ⟨s.toks + 1, by rw [List.size_toArray, hlen]⟩, q⟩
theorem call_tuple_of : CallR X (.type "tuple") (fun xs H Q => ∃ p ys, xs = [.ref p] ∧ ((SqL X.K H p ys ∧ ∀ l, H l = none → Q (.ref l) (upd H l (.tup ys))) ∨ (SqT X.K H p ys ∧ Q (.ref p) H))) := by
  intro pins s σ H xs us Q I r h
  obtain ⟨p, ys, rfl, h⟩ := h
  obtain ⟨u, rfl, rx⟩ := vals1 r
  cases rx
  rcases h with ⟨hq, q⟩ | ⟨hq, q⟩
  · obtain ⟨its, r', pl, hz⟩ := I.list hq
    have hlen := r'.length
    refine call_tuple_list pl.isList (fun h' kp => ?_) (by simp only [List.size_toArray] <;> omega)
    have I1 : Inv X pins σ H { s with heap := h' } := I.kept (t' := s.toks) kp
    have I2 : Inv X pins σ (upd H h'.objs.size (.tup ys)) { s with heap := h'.push { cls := .type "tuple", data := .seq its.toArray } } :=
      I1.laid (t' := s.toks) (fun b o e => Heap.get?_push_of_some _ e) (Nat.le_refl _) (show ObjOk X.prog X.w _ _ _ (.tup ys) from ⟨hz, its, r', IsTup.new _ _⟩)
    exact ⟨.ref h'.objs.size, _, I2, rfl, q _ (I1.hok.fresh (Nat.le_refl _))⟩
  · obtain ⟨its, r', pl, hz⟩ := I.tuple hq
    exact call_tuple_same pl ⟨.ref p, H, I, rfl, q⟩

/-! ### the call of a builtin's method: o.m(..) -/
/-- the value is of that builtin type -/
def tyV (K : PySem.W.Frag) (T : String) (x : V) (H : Hp) : Prop := match x with
  | .str _ => T = "str"
  | .int _ => T = "int"
  | .ref p => (T = "list" ∧ ∃ xs, SqL K H p xs) ∨ (T = "tuple" ∧ ∃ o, K.lookup p = some o ∧ o.cls = .type "tuple" ∧ o.dict = none) ∨
      (T = "dict" ∧ ((∃ kvs, H p = some (.dK kvs)) ∨ ∃ kvs, H p = some (.dT kvs))) ∨ (T = "set" ∧ ∃ S n, H p = some (.set S n))
  | _ => False
theorem tyV_is {pins : List (Addr × Obj)} {σ : St} {H : Hp} {s : Shared} {T : String} {x : V} {v : Value} (I : Inv X pins σ H s) (r : RelV x v) (ty : tyV X.K T x H) :
    s.TypeIs v T ∧ ∀ a, v = .ref a → ∃ ob, s.heap.get? a = some ob ∧ ob.dict = none := by
  cases x with
  | str z =>
    obtain ⟨t, rfl⟩ := r
    cases (show T = "str" from ty)
    exact ⟨typeIs_str s z t, fun _ e => nomatch e⟩
  | int i =>
    obtain ⟨t, rfl⟩ := r
    cases (show T = "int" from ty)
    exact ⟨typeIs_int s i t, fun _ e => nomatch e⟩
  | ref p =>
    cases r
    rcases ty with ⟨rfl, xs, hq⟩ | ⟨rfl, o, hk, hc, hd⟩ | ⟨rfl, hk⟩ | ⟨rfl, S, n, hk⟩
    · obtain ⟨its, _, pl, _⟩ := I.list hq
      refine ⟨pl.isList.typeIs, fun a e => ?_⟩
      cases e
      obtain ⟨o, n, e, c, hd, _⟩ := pl
      exact ⟨o, e, hd⟩
    · refine ⟨⟨o, I.kIn p o hk, hc⟩, fun a e => ?_⟩
      cases e
      exact ⟨o, I.kIn _ o hk, hd⟩
    · have z : ∃ o, s.heap.get? p = some o ∧ o.ExactDict := by
        rcases hk with ⟨kvs, hk⟩ | ⟨kvs, hk⟩
        · obtain ⟨_, _, _, _, o, _, _, e, ex, _⟩ := I.hok p _ hk
          exact ⟨o, e, ex⟩
        · obtain ⟨_, _, _, _, o, _, _, e, ex, _⟩ := I.hok p _ hk
          exact ⟨o, e, ex⟩
      obtain ⟨o, e, ex⟩ := z
      refine ⟨⟨o, e, ex.1⟩, fun a e2 => ?_⟩
      cases e2
      exact ⟨o, e, ex.2.1⟩
    · obtain ⟨o, _, _, _, e, ex, _⟩ := I.hok p _ hk
      refine ⟨⟨o, e, ex.1⟩, fun a e2 => ?_⟩
      cases e2
      exact ⟨o, e, ex.2.1⟩
  | _ => exact False.elim ty
def tBM0 (K : PySem.W.Frag) (T : String) (r : V → List V → Hp → VK → Prop) (to : TE) : TE := fun σ H Q => to σ H fun x H1 => tyV K T x H1 ∧ r x [] H1 Q
def tBM (K : PySem.W.Frag) (T : String) (r : V → List V → Hp → VK → Prop) (to : TE) (t : TA) : TE := fun σ H Q => to σ H fun x H1 => tyV K T x H1 ∧ t σ H1 fun xs H2 => r x xs H2 Q
variable {o e : Expr} {es : List Expr} {to : TE} {t : TA} {name : Str} {apos cpos : Pos} {T id : String} {r : V → List V → Hp → VK → Prop}
theorem pe_bm0 (pa : PlainAttrs T) (slot : Slot T name id) (hty : typeOf (.builtin id) = pure (.type "method_descriptor")) (hm : MtR X id r) (ho : PE X o to)
    (hbase : attributeBase o name X.env (eval o X.env) = eval o X.env := by rfl) (hline : (apos.endLine == cpos.line) = true := by rfl) : PE X (.Call (.Attribute o name apos) [] [] cpos) (tBM0 X.K T r to) := by
  intro pins s σ H Q I h
  refine wpAny_Call_method0_late hbase hline (thn (ho pins s σ H _ I h) fun v s1 ⟨x, H1, I1, r1, ty, q1⟩ => ?_)
  obtain ⟨h1, h2⟩ := tyV_is I1 r1 ty
  exact ⟨T, id, pa, slot, hty, h1, h2, Calls.callWith_builtin rfl (PySem.evalArgs_none (hm pins s1 σ H1 x [] v [] Q I1 r1 .nil q1))⟩
theorem pe_bm (pa : PlainAttrs T) (slot : Slot T name id) (hty : typeOf (.builtin id) = pure (.type "method_descriptor")) (hm : MtR X id r) (ho : PE X o to) (ha : PA X (e :: es) t)
    (hbase : attributeBase o name X.env (eval o X.env) = eval o X.env := by rfl)
    (hfew : ((backTo cpos (starEach (e :: es) X.env)).all (fun x => !x.1) && (backToKw cpos (keywordEach [] X.env)).all (fun x => x.1.isSome)
      && decide ((e :: es).length + ([] : List Keyword).length + (if ([] : List Keyword).isEmpty then 0 else 1) < 30)) = true := by rfl)
    (hline : (apos.endLine == cpos.line) = true := by rfl) (hs : starEach (e :: es) X.env = (false, eval e X.env) :: starEach es X.env := by rfl) (hplain : (backTo cpos (starEach es X.env)).any (·.1) = false := by rfl) :
    PE X (.Call (.Attribute o name apos) (e :: es) [] cpos) (tBM X.K T r to t) := by
  intro pins s σ H Q I h
  refine wpAny_Call_method_late hbase hfew hline rfl (thn (ho pins s σ H _ I h) fun v s1 ⟨x, H1, I1, r1, ty, q1⟩ => ?_)
  obtain ⟨h1, h2⟩ := tyV_is I1 r1 ty
  refine ⟨T, id, pa, slot, hty, h1, h2, ?_⟩
  have hA := ha cpos pins s1 σ H1 _ I1 q1
  rw [hs] at hA ⊢
  refine Calls.callWith_builtin (by show (false || (backTo cpos (starEach es X.env)).any (·.1)) = false; rw [hplain] <;> rfl) (Calls.evalArgs_plain ?_)
  exact thn hA fun us s2 ⟨vs, H2, I2, r2, q2⟩ => hm pins s2 σ H2 x vs v us Q I2 r1 r2 q2
/- xs.append(e), list.index on a module's tuple .. are MtR facts of 06m -/
end
end L2

namespace L2
open PySem PySem.Spec PyProof.Rows

def MtM (X : Cx) (id : String) (r : V → List V → Hp → VK → Prop) : Prop :=
  ∀ (pins : List (Addr × Obj)) (s : Shared) (σ : St) (H : Hp) (x : V) (xs : List V) (v : Value) (us : List Value) (Q : VK), Inv X pins σ H s → RelV x v → Vals xs us → r x xs H Q →
    wpAny (model X.prog X.w) X.A (call (.builtin id) (v :: us)) (EP X pins σ Q) X.xe s

/-! ### lists of values -/
theorem Vals.one : ∀ {x : V} {us : List Value}, Vals [x] us → ∃ u, us = [u] ∧ RelV x u
  | _, _, .cons r .nil => ⟨_, rfl, r⟩
theorem Vals.zero : ∀ {us : List Value}, Vals [] us → us = []
  | _, .nil => rfl
theorem Vals.reverse {xs : List V} {us : List Value} (h : Vals xs us) : Vals xs.reverse us.reverse := by
  induction h with
  | nil => exact .nil
  | cons r t ih => rw [List.reverse_cons, List.reverse_cons]; exact Vals.append ih (.cons r .nil)
section
variable {X : Cx} {pins : List (Addr × Obj)} {σ : St} {H : Hp} {s : Shared} {l b : Addr} {xs ys zs : List V}

/-! ### the two steps: a tracked list is rewritten, a new list is laid -/
theorem Inv.lset {its its' : List Value} {n : Nat} {f : Array Value → Array Value} {t' : Nat} (I : Inv X pins σ H s) (hH : H l = some (.lst xs))
    (e : s.heap.get? l = some { cls := .type "list", data := .seq its.toArray n }) (hf : f its.toArray = its'.toArray) (hv : Vals ys its') (hz : ys.length ≤ sizeLine) :
    Inv X pins σ (upd H l (.lst ys)) { s with heap := s.heap.update l (Obj.mapSeq f), toks := t' } := by
  have q := PySem.IsL.update e f
  rw [hf] at q
  refine I.write (x := l) (e := l) (by rw [hH]; exact trivial) (.inl rfl) (fun b' u hb hu => (Heap.get?_update_other s.heap (Obj.mapSeq f) (Ne.symm hb)).trans hu) ⟨_, q⟩ ?_
  exact ⟨hz, its', _, hv, q⟩
theorem Inv.lnew {its : List Value} {t' : Nat} (I : Inv X pins σ H s) (hv : Vals ys its) (hz : ys.length ≤ sizeLine) :
    Inv X pins σ (upd H s.heap.objs.size (.lst ys)) { s with heap := s.heap.push { cls := .type "list", data := .seq its.toArray }, toks := t' } :=
  I.laid (fun _ _ q => Heap.get?_push_of_some _ q) (Nat.le_refl _) ⟨hz, its, 0, hv, Heap.get?_push_size _ rfl⟩
theorem Inv.fresh (I : Inv X pins σ H s) : H s.heap.objs.size = none := I.hok.fresh (Nat.le_refl _)
theorem Inv.lstM (I : Inv X pins σ H s) (hH : H l = some (.lst xs)) : xs.length ≤ sizeLine ∧ ∃ (its : List Value) (n : Nat), Vals xs its ∧ xs.length = its.length ∧ s.heap.get? l = some { cls := .type "list", data := .seq its.toArray n } := by
  obtain ⟨z, its, n, r, e⟩ := I.hok l _ hH
  exact ⟨z, its, n, r, r.length, e⟩

theorem notLongL {n : Nat} (h : n ≤ sizeLine) : Builtin.List.listTooLong n = false := by
  unfold Builtin.List.listTooLong
  exact decide_eq_false (by omega)
end

section
variable {X : Cx}

/-! ### methods -/
def rAppend : V → List V → Hp → VK → Prop := fun x vs H Q => ∃ l xs y, x = .ref l ∧ vs = [y] ∧ H l = some (.lst xs) ∧ xs.length < sizeLine ∧ Q .non (upd H l (.lst (xs ++ [y])))
theorem mt_append : MtM X "list.append" rAppend := by
  intro pins s σ H x vs v us Q I rx rv h
  obtain ⟨l, xs, y, rfl, rfl, hH, hz, q⟩ := h
  cases rx
  obtain ⟨u, rfl, ru⟩ := rv.one
  obtain ⟨z, its, n, r, hl, e⟩ := I.lstM hH
  refine call_meets F.slot_list_append ⟨_, e, rfl⟩ F.entry_list_append (F.args_list_append_2 _ _) (PySem.list_append l its.toArray n u (by rw [List.size_toArray]; omega)) ⟨e, ?_⟩
  refine ⟨.non, _, I.lset (its' := its ++ [u]) hH e (by simp) (r.append (.cons ru .nil)) ?_, rfl, q⟩
  rw [List.length_append, List.length_singleton]
  omega

def rExtend : V → List V → Hp → VK → Prop := fun x vs H Q => ∃ l b xs zs, x = .ref l ∧ vs = [.ref b] ∧ H l = some (.lst xs) ∧ H b = some (.lst zs) ∧ xs.length + zs.length ≤ sizeLine ∧ Q .non (upd H l (.lst (xs ++ zs)))
theorem mt_extend : MtM X "list.extend" rExtend := by
  intro pins s σ H x vs v us Q I rx rv h
  obtain ⟨l, b, xs, zs, rfl, rfl, hH, hB, hz, q⟩ := h
  cases rx
  obtain ⟨u, rfl, ru⟩ := rv.one
  cases ru
  obtain ⟨z, its, n, r, hl, e⟩ := I.lstM hH
  obtain ⟨z2, its2, n2, r2, hl2, e2⟩ := I.lstM hB
  have hsz : its.toArray.size + its2.toArray.size ≤ sizeLine := by rw [List.size_toArray, List.size_toArray]; omega
  have hlong : ¬ (!its.toArray.isEmpty && Builtin.List.listTooLong (its.toArray.size + its2.toArray.size)) = true := by
    rw [notLongL hsz, Bool.and_false]
    exact Bool.false_ne_true
  refine call_meets F.slot_list_extend ⟨_, e, rfl⟩ F.entry_list_extend (F.args_list_extend_2 _ _)
    (AutoSeq1.list_extend_list_list_0 l its.toArray n b its2.toArray n2 hlong (by rw [List.size_toArray]; omega) (by omega)) ⟨e, e2, ?_⟩
  refine ⟨.non, _, I.lset (its' := its ++ its2) hH e (by simp) (r.append r2) ?_, rfl, q⟩
  rw [List.length_append]
  omega

/-! ### list + list, list += list, list * int -/
def rCat : R2 := fun x y H Q => ∃ l b xs zs, x = .ref l ∧ y = .ref b ∧ H l = some (.lst xs) ∧ H b = some (.lst zs) ∧ xs.length + zs.length ≤ sizeLine ∧ ∀ p, H p = none → Q (.ref p) (upd H p (.lst (xs ++ zs)))
theorem op_cat : OpR X (binaryOp .Add) rCat := by
  intro pins s σ H x y v u Q I rx ry h
  obtain ⟨l, b, xs, zs, rfl, rfl, hH, hB, hz, q⟩ := h
  cases rx
  cases ry
  obtain ⟨z, its, n, r, hl, e⟩ := I.lstM hH
  obtain ⟨z2, its2, n2, r2, hl2, e2⟩ := I.lstM hB
  refine PySem.P.add_list e e2 ?_ (by rw [List.size_toArray, List.size_toArray]; omega)
  have ea : its.toArray ++ its2.toArray = (its ++ its2).toArray := by simp
  rw [ea]
  exact ⟨.ref _, _, I.lnew (t' := s.toks) (r.append r2) (by rw [List.length_append]; omega), rfl, q _ I.fresh⟩
/-! ### del xs[i] -/
end

/-! ### xs[a:b] = ys -/
section
variable {prog : Program} {w : World} {A : Around} {E : Value → Shared → Prop} {s : Shared}
end

section
variable {X : Cx}
end
end L2

namespace Att
open PySem PySem.W PySem.Calls PyProof.Rows

/-! ### the script -/
theorem ints_of_wellAll {P : Params} {h : Heap} : ∀ (ns : List Int) (vs : List Value), WellAll P h vs (ns.map WData.int) → IntsAre vs ns := by
  intro ns
  induction ns with
  | nil =>
    intro vs w
    rw [List.map_nil] at w
    cases w
    exact .nil
  | cons n ns ih =>
    intro vs w
    rw [List.map_cons] at w
    cases w with
    | cons a b =>
      cases a
      exact .cons _ _ (ih _ b)

theorem script_of {l : OpenLaw} {n : Nat} (hn : l.most = some n) {P : Params} {h : Heap} {args : List WData} {vals : List Value}
    (hpre : l.row.toRowW.claim.pre args = true) (hwl : WellAll P h vals args) :
    ∃ a vs ns, vals = [Value.ref a] ∧ args = [WData.list (ns.map WData.int)] ∧ h.get? a = some { cls := .type "list", data := .seq vs.toArray } ∧ IntsAre vs ns ∧ ns.length ≤ n := by
  have hsh : WShape.hasAll [] args [.list .int] = true := (pre_splitW hpre).1
  have hc : l.pre.holds [] { args := args } = true := (pre_splitW hpre).2
  obtain ⟨d, r, rfl, h1, h2⟩ := hasAllW_cons hsh
  obtain rfl := hasAllW_nil h2
  obtain ⟨xs, rfl, h3⟩ := hasW_list h1
  obtain ⟨ns, rfl⟩ := items_int h3
  have hlen : ns.length ≤ n := by
    unfold OpenLaw.pre at hc
    have h4 : (WTm.not (.lt (.lit (.int (n : Int))) (.len (.arg 0)))).holds [] { args := [.list (ns.map .int)] } = true := by
      have h4 := (holds_andW hc).1
      rw [hn] at h4
      exact h4
    have h5 := condW_of h4 (w_not (w_lt w_lit (w_len_list (w_arg rfl))))
    rw [List.length_map] at h5
    refine Nat.le_of_not_lt fun q => ?_
    have q' : (n : Int) < ((ns.length : Nat) : Int) := by omega
    first
      | (rw [decide_eq_true q'] at h5; exact absurd h5 (by decide))
      | (simp at h5; omega)
  cases hwl with
  | cons w1 w2 =>
    cases w2
    cases w1 with
    | list ho hall => exact ⟨_, _, ns, rfl, rfl, ho, ints_of_wellAll ns _ hall, hlen⟩

theorem post_true (l : OpenLaw) (args : List WData) : l.row.toRowW.claim.post args (.bool true) args = true :=
  postW_of (r := l.row.toRowW) (X := (true == true))
    (show WShape.has [] (.bool true) .bool = true by first | rfl | decide | simp [WShape.has, WShape.arms, WShape.armsAll])
    (show (WTm.eq .res (.lit (.bool true))).value [] { args := args, res := some (.bool true), after := args } = some (.bool (true == true)) from w_eq_bool (w_res rfl) w_lit) rfl

/-! ### the attachment: holds_open's last premise (the goal 'hc' behind k_head) from a wpAny of the law's body -/
/-- the same from a codeAny of the CALL (for a layer whose function contracts speak of calls) -/
theorem attach_call {l : OpenLaw} {n : Nat} {q : Program} {loose : List Str} {XP : (Str → Option Value) → Heap → Prop} {YP : World → Heap → Prop} {d : DefRec}
    (hn : l.most = some n) (hdf : d.params.defaults = [])
    (call : ∀ (w : World) (s₀ s₁ : Shared) (mg mb : Str → Option Value) (fa : Addr) (o : Obj) (pm cd doc : Value) (a : Addr) (vs : List Value) (ns : List Int),
      Ground q loose [] XP w s₀ mg mb s₁.heap → YP w s₁.heap →
      s₁.heap.get? fa = some o → o.data = .func (docDef d.name d.params d.body d.scope pm cd doc) → s₁.heap.CodeRec cd d.name → mg d.name = some (.ref fa) →
      s₁.heap.get? a = some { cls := .type "list", data := .seq vs.toArray } → IntsAre vs ns → ns.length ≤ n → s₁.gens = #[] →
      codeAny (model l.prog w) callerA (.call (.ref fa) ⟨[.ref a], []⟩) (fun r s' => r = .ok (.ret (.bool true)) ∧ OldK s₁.heap s'.heap ∧ s'.os = s₁.os ∧ AllBare s'.gens) s₁) :
    WalkO q loose XP YP l.row.toRowW d [] (fun f vs => PySem.call f vs) := by
  intro w s₀ s₁ mg mb G Y fa o pm cd doc dV kV ho hd hcd hD hmg hg args vals as hpre hlay hrd hwl hlo
  obtain rfl : dV = .none := Dflts.none hD hdf
  obtain rfl : kV = .none := Dflts.noKw hD
  obtain ⟨a, vs, ns, rfl, rfl, hobj, hints, hlen⟩ := script_of hn hpre hwl
  refine enter_call (codeAny_mono (call w s₀ s₁ mg mb fa o pm cd doc a vs ns G Y ho (fd_plain hd) hcd hmg hobj hints hlen hg) fun r s' hq => ?_)
  obtain ⟨rfl, h2, h3, h4⟩ := hq
  exact ⟨.inl ⟨.bool true, .bool true, [], rfl, fun _ => rfl, .bool true, post_true l _, fun _ => ⟨List.Pairwise.nil, fun _ hm => (nomatch hm)⟩⟩, h2, h3, h4⟩

/-! ### rules over ANY heap (no ledger) from facts about the written part K: the library's own take a ledger (News) for what they write -/
section
variable {prog : Program} {w : World} {A : Around} {E : Value → Shared → Prop} {s : Shared} {K : Frag}

/-! the whole heap as the ledger: makes every rule that writes through a ledger a rule over any heap -/
end
end Att

namespace L2
open PySem PySem.Spec PyProof.Rows

theorem vals_ints : ∀ {vs : List Value} {ns : List Int}, IntsAre vs ns → Vals (ns.map V.int) vs
  | _, _, .nil => .nil
  | _, _, .cons n t h => .cons ⟨t, rfl⟩ (vals_ints h)

/-- nothing is tracked but the script, known to the object (or it is an object of the module) -/
def Only (H : Hp) : Prop := ∀ b, H b = none ∨ ∃ o xs, H b = some (.frz o (.lst xs))

/-- THE HEAD: the law's promise, at the heap behind the top. F, the promise of the law's def, may use that base is part of the heap (so K.In base, base.Ns mainGlobals mg stand in Mod) -/
theorem law_call {P : Program} {w : World} {K : PySem.W.Frag} {mg mb : Str → Option Value} {CX : CXT} {k : Nat} {fa a : Addr} {fd : FuncData} {x : Str} {sp : Sp} {s₁ : Shared} {vs : List Value} {ns : List Int}
    (KX : K.In s₁.heap) (hns : s₁.heap.Ns mainGlobals mg) (hb : s₁.heap.Ns builtinsNs mb) (hbb : ∀ x : Str, x ≠ "__name__" → mb x = bootBuiltins x) (hlim : s₁.heap.NoLimit) (hg : s₁.gens = #[])
    (ha : s₁.heap.get? a = some { cls := .type "list", data := .seq vs.toArray }) (hi : IntsAre vs ns) (hl : ns.length ≤ sizeLine) (hr : Room k callerA)
    (F : ∀ base : Heap, K.In base → base.Ns mainGlobals mg → FnOk P w K mg base CX k fa fd [x] sp) (hbind : ∀ (s : Shared) (u : Value), BindsTo s fd ⟨[u], []⟩ [(x, u)])
    (hsp : ∀ H : Hp, Only H → SqL K H a (ns.map V.int) → sp [.ref a] H (fun v _ => v = .bl true) fun _ _ _ => False)
    (hCX : ∀ H e s', CX [] H s₁ (fun _ _ _ => False) e s' → False) :
    codeAny (model P w) callerA (.call (.ref fa) ⟨[.ref a], []⟩) (fun r s' => r = .ok (.ret (.bool true)) ∧ OldK s₁.heap s'.heap ∧ s'.os = s₁.os ∧ AllBare s'.gens) s₁ := by
  have rv := vals_ints hi
  have lenV := hi.length
  -- from an abstract heap in which nothing but the script may be tracked
  have core : ∀ H : Hp, Only H → SqL K H a (ns.map V.int) → HOk P w H s₁.heap → (∀ b, H b ≠ none → b = a) → (H a ≠ none → K.lookup a = none) →
      codeAny (model P w) callerA (.call (.ref fa) ⟨[.ref a], []⟩) (fun r s' => r = .ok (.ret (.bool true)) ∧ OldK s₁.heap s'.heap ∧ s'.os = s₁.os ∧ AllBare s'.gens) s₁ := by
    intro H hO hS hok hA hK
    have base_of : ∀ {b : Addr} {o : Obj}, s₁.heap.get? b = some o → H b = none → (hidT s₁.heap H).get? b = some o := fun e n => hidT_get e n
    have noA : ∀ {b : Addr} {o : Obj} {es : Array DictEntry} {ep : Nat}, s₁.heap.get? b = some o → o.data = .dict es ep → H b = none := fun {b o es ep} e d => by
      cases q : H b with
      | none => rfl
      | some u =>
        have e' : b = a := hA b (by rw [q]; simp)
        subst e'
        rw [ha] at e; cases e
        have d' : Data.seq vs.toArray _ = Data.dict es ep := d
        cases d'
    have nsK : ∀ {b : Addr} {m : Str → Option Value}, s₁.heap.Ns b m → (hidT s₁.heap H).Ns b m := fun {b m} ⟨o, es, ep, e, d, r⟩ => ⟨o, es, ep, base_of e (noA e d), d, r⟩
    have hKb : K.In (hidT s₁.heap H) := fun b o e => base_of (KX b o e) (by
      cases q : H b with
      | none => rfl
      | some u =>
        have e' : b = a := hA b (by rw [q]; simp)
        subst e'
        rw [hK (by rw [q]; simp)] at e; cases e)
    have hM : Mod K mg (hidT s₁.heap H) := ⟨hKb, nsK hns, ⟨mb, nsK hb, hbb⟩, let ⟨mc, h1, h2⟩ := hlim; ⟨mc, nsK h1, h2⟩⟩
    have e0 : Env0 P w K mg (hidT s₁.heap H) callerA [] s₁ H := ⟨rfl, hM, fun b o e => of_hidT e, Nat.le_of_eq (hidT_size _ _), trivial, fun b hb => absurd (show b ∈ ([] : List Addr) from hb) (by simp), hok, .of_eq hg⟩
    refine codeAny_mono ((F _ hKb (nsK hns)).run callerA [] s₁ H ⟨[.ref a], []⟩ [.ref a] [.ref a] _ _ hr e0 (hbind s₁ (.ref a)) (.cons rfl .nil) (hsp H hO hS)) fun r s' h => ?_
    cases r with
    | error e => exact (hCX H e s' h).elim
    | ok fl =>
      cases fl with
      | next => exact False.elim h
      | brk => exact False.elim h
      | cont => exact False.elim h
      | ret u =>
        obtain ⟨v, H', os, bare, un, hok', r', q⟩ := h
        have q' : v = .bl true := q
        subst q'
        obtain rfl : u = Value.bool true := r'
        refine ⟨rfl, OldK.of_keep fun b o e => ?_, os, bare⟩
        cases q : H b with
        | none => exact un.keep b o e q (by intro z; exact absurd (show b ∈ ([] : List Addr) from z) (by simp)) (by simp)
        | some u =>
          rcases hO b with z | ⟨ob, xs, z⟩
          · rw [q] at z; cases z
          · have z2 := un.frzs b ob _ z
            obtain ⟨e1, _⟩ := hok b _ z
            obtain ⟨e2, _⟩ := hok' b _ z2
            rw [e] at e1; cases e1
            exact e2
  cases hk : K.lookup a with
  | some o =>
    -- the script is one of the module's own objects
    have e := KX a o hk
    rw [ha] at e
    cases e
    refine core (fun _ => none) (fun _ => .inl rfl) (.inr ⟨_, vs.toArray, _, hk, rfl, rfl, rfl, by rw [List.size_toArray, lenV]; exact hl, by simpa using rv⟩) (fun b u z => by have z' : (none : Option HO) = some u := z; cases z') (fun b z => absurd rfl z) fun z => absurd rfl z
  | none =>
    refine core (fun b => if b = a then some (.frz { cls := .type "list", data := .seq vs.toArray } (.lst (ns.map V.int))) else none) (fun b => ?_) (.inl (.inr ⟨{ cls := .type "list", data := .seq vs.toArray }, if_pos rfl⟩)) (fun b u z => ?_) (fun b z => ?_) fun _ => hk
    · by_cases hb : b = a
      · exact .inr ⟨_, _, if_pos hb⟩
      · exact .inl (if_neg hb)
    · by_cases hb : b = a
      · have z' := (if_pos hb).symm.trans z
        cases z'
        subst hb
        exact ⟨ha, by rw [List.length_map]; exact hl, vs, _, rv, ha⟩
      · have z' := (if_neg hb).symm.trans z
        cases z'
    · by_cases hb : b = a
      · exact hb
      · exact absurd (if_neg hb) z
end L2

namespace L2
open PySem PySem.Spec PyProof.Rows

/-- the goal that k_head leaves (case hc), from the law's promise. F gives the function object fd (K's own) once, then the promise over every base -/
theorem walk_of {l : PySem.W.OpenLaw} {n k : Nat} {q : Program} {loose : List Str} {XP : (Str → Option Value) → Heap → Prop} {YP : World → Heap → Prop} {d : DefRec} {K : Params → PySem.W.Frag} {CX : World → CXT} {sp : World → Sp} {x : Str}
    (hn : l.most = some n) (hn2 : n ≤ sizeLine) (hdf : d.params.defaults = []) (hr : Room k callerA)
    (hY : ∀ (w : World) (h : Heap), YP w h → (K w.params).In h)
    (F : ∀ (w : World) (mg : Str → Option Value) (fa : Addr) (h : Heap), (K w.params).In h → h.Ns mainGlobals mg → mg d.name = some (.ref fa) →
      ∃ fd : FuncData, (∀ (s : Shared) (u : Value), BindsTo s fd ⟨[u], []⟩ [(x, u)]) ∧
        ∀ base : Heap, (K w.params).In base → base.Ns mainGlobals mg → FnOk l.prog w (K w.params) mg base (CX w) k fa fd [x] (sp w))
    (hsp : ∀ (w : World) (H : Hp) (a : Addr) (ns : List Int), ns.length ≤ n → Only H → SqL (K w.params) H a (ns.map V.int) → sp w [.ref a] H (fun v _ => v = .bl true) fun _ _ _ => False)
    (hCX : ∀ (w : World) (H : Hp) (s : Shared) (e : Value) (s' : Shared), CX w [] H s (fun _ _ _ => False) e s' → False) :
    PySem.W.WalkO q loose XP YP l.row.toRowW d [] (fun f vs => PySem.call f vs) := by
  refine Att.attach_call hn hdf fun w s₀ s₁ mg mb fa o pm cd doc a vs ns G Y ho hd hcd hmg hobj hints hlen hg => ?_
  have KX := hY w _ Y
  obtain ⟨fd, hb, hF⟩ := F w mg fa _ KX G.T.g hmg
  exact law_call KX G.T.g G.T.b G.T.builtins G.T.nolimit hg hobj hints (Nat.le_trans hlen hn2) hr hF hb (fun H hO hS => hsp w H a ns hlen hO hS) fun H e s' => hCX w H s₁ e s'
end L2

/- THE LAST THEOREM (shape; LID, My.* are yours):
   My.Adr: a structure of the addresses that your layer names (classes, functions); My.Txt K t: a structure (Prop) of the equations over K;
   My.txt_mk : {K} {implicit addresses ..} (e1 : nsIn K mainGlobals "law" = some (some (.ref f))) (e2 : K.lookup f = some ⟨oc, od, .func (fnOf "law" "law" params body scope dV kV doc pm an cdv ct), sl⟩) (e3 : codeIn K cdv "law" = true) .. : ∃ t, My.Txt K t

set_option maxRecDepth 100000 in
set_option maxHeartbeats 0 in
theorem PySem.Challenge.cw_LID_holds : PySem.Challenge.rw_LID.Holds := by
  w_on; o_law; k_head; (case hw => w_witness2)
  k_fill
  refine L2.walk_of (l := PySem.Challenge.rw_LID) (n := 63) (k := 40) (x := "script") (CX := fun w => ..) (sp := fun _ => My.sp_law) rfl (by decide) rfl ⟨rfl, by decide, by decide⟩ (fun w h Y => PySem.W.kIn_of Y) ?F ?S ?C
  case F =>
    intro w mg fa h KX G hmg
    have T : ∃ t, My.Txt (L2.KOf KX) t := by
      dsimp only [L2.KOf]                          -- K must stand as «<heap const> w.params» for k_is
      refine' My.txt_mk ?e1 ?e2 ?e3 ..
      (case e1 => PySem.W.k_is)                    -- in the order: a name -> its address -> its object -> its parts
      (case e2 => PySem.W.k_is)
      ..
    obtain ⟨t, T⟩ := T
    have e0 := hmg.symm.trans (PySem.W.mg_of KX G T.law)
    cases e0                                       -- fa is the law's own address
    exact ⟨_, fun s u => .of_eq rfl, fun base kb nb => My.law_fn T kb nb⟩     -- if «.of_eq rfl» comes too early: refine' ⟨_, ?b, fun base kb nb => My.law_fn T kb nb⟩; exact fun s u => .of_eq rfl
  case S => exact fun w H a ns hl hO hS => ..
  case C => exact ..
(the tactic k_is has no namespace: write k_is) -/

/-! SHORT WORDS over the layer: a def of the text, its body, what a loop and a test want. -/
namespace L2
open PySem PySem.Spec PyProof.Rows

/-! ### the text by places -/
def defArgs (s : Stmt) : Arguments := match s with
  | .FunctionDef _ a _ _ _ _ _ _ _ _ => a
  | _ => { posonlyargs := [], args := [], vararg := none, kwonlyargs := [], kw_defaults := [], kwarg := none, defaults := [] }
def defBody (s : Stmt) : List Stmt := match s with
  | .FunctionDef _ _ b _ _ _ _ _ _ _ => b
  | _ => []
def defScope (s : Stmt) : Scope := match s with
  | .FunctionDef _ _ _ _ _ _ sc _ _ _ => sc
  | _ => { kind := .function, names := [], isGenerator := false, isCoroutine := false }

/-! ### no exception leaves a def -/
abbrev CX0 : CXT := fun _ _ _ _ _ _ => False
abbrev E0 : XK := fun _ _ _ => False
theorem pass0 {X : Cx} : Passes CX0 X E0 := fun _ _ _ _ _ _ _ h => h.elim

/-! ### a def (or method) of the text as it stands behind the top -/
structure Fun (K : PySem.W.Frag) (x qual : Str) (st : Stmt) (f : Addr) (fd : FuncData) : Prop where
  ex : ∃ (oc : Value) (od : Option Addr) (kV doc pm : Value) (an : Option Addr) (cdv ct : Value) (osl : Array (Option Value)),
    fd = PySem.W.fnOf x qual (defArgs st) (defBody st) (defScope st) .none kV doc pm an cdv ct ∧ K.lookup f = some ⟨oc, od, .func fd, osl⟩ ∧ PySem.W.codeIn K cdv qual = true
  kp : PySem.W.keepIn K (.ref f) = true
section
variable {P : Program} {w : World} {K : PySem.W.Frag} {mg : Str → Option Value} {base : Heap}
/-- THE RULE for a def: its body as a term of rules, and the reading of that term -/
theorem Fun.ok {x qual : Str} {st : Stmt} {f : Addr} {fd : FuncData} {N ps : List Str} {k : Nat} {sp : Sp} (F : Fun K x qual st f fd) (S : FnScope N ps (defScope st)) (len : ∀ vs H Q E, sp vs H Q E → vs.length = ps.length)
    (hbody : ∀ (cdv : Value) (A : Around) (outer : List Env) (s : Shared) (H : Hp) (vs : List V) (Q : VK) (E : XK), Room k (A.deeper (envOfC qual (defScope st) s.heap.objs.size f cdv)) → sp vs H Q E →
      ∃ t, PSs (cxOf CX0 P w K mg base N qual (defScope st) f cdv A outer s H E).nox (defBody st) t ∧ t { nx := fun _ H' => Q .non H', rt := Q } (start N vs) H) : FnOk P w K mg base CX0 (k + 1) f fd ps sp := by
  obtain ⟨oc, od, kV, doc, pm, an, cdv, ct, osl, rfl, lk, hcd⟩ := F.ex
  refine fn_of lk hcd S len fun A outer s H vs Q E hr hsp => ?_
  obtain ⟨t, h, q⟩ := hbody cdv A outer s H vs Q E hr hsp
  exact ⟨t, h.nox, q⟩
/-- how its arguments bind (no defaults): h is «fun _ _ _ _ _ _ us hl => match us, hl with | [_, _], _ => rfl», one _ a parameter -/
theorem Fun.binds {x qual : Str} {st : Stmt} {f : Addr} {fd : FuncData} {ps : List Str} (F : Fun K x qual st f fd)
    (h : ∀ (kV doc pm : Value) (an : Option Addr) (cdv ct : Value) (us : List Value), us.length = ps.length → bindArgs (PySem.W.fnOf x qual (defArgs st) (defBody st) (defScope st) .none kV doc pm an cdv ct) ⟨us, []⟩ = pure (ps.zip us)) : Binds K fd ps [] := by
  obtain ⟨oc, od, kV, doc, pm, an, cdv, ct, osl, rfl, lk, hcd⟩ := F.ex
  exact .all (h kV doc pm an cdv ct)
theorem fun_mk {x qual : Str} {st : Stmt} {f : Addr} {oc : Value} {od an : Option Addr} {osl : Array (Option Value)} {kV doc pm cdv ct : Value} (l : K.lookup f = some ⟨oc, od, .func (PySem.W.fnOf x qual (defArgs st) (defBody st) (defScope st) .none kV doc pm an cdv ct), osl⟩)
    (c : PySem.W.codeIn K cdv qual = true) (k : PySem.W.keepIn K (.ref f) = true) : Fun K x qual st f (PySem.W.fnOf x qual (defArgs st) (defBody st) (defScope st) .none kV doc pm an cdv ct) := ⟨⟨oc, od, kV, doc, pm, an, cdv, ct, osl, rfl, l, c⟩, k⟩
end
/-! ### expressions in short: the name that stands in the i-th slot -/
section
variable {X : Cx}
theorem pv (i : Nat) {x : Str} {pos : Pos} (hN : X.N[i]? = some x := by rfl) (hv : Vis X.env.scope x := by first | exact Or.inl rfl | exact Or.inr (Or.inl rfl) | exact Or.inr (Or.inr rfl)) (hd : (x == ("__debug__" : Str)) = false := by decide)
    (hcd : (x == ("__classdict__" : Str)) = false := by decide) : PE X (.Name x pos) (tVar i) := pe_var hN hv hd hcd
end

/-! ### tests -/
theorem iteF {A B : Prop} (h : B) : if false = true then A else B := by
  rw [if_neg Bool.false_ne_true]
  exact h
theorem iteT {A B : Prop} (h : A) : if true = true then A else B := by
  rw [if_pos rfl]
  exact h
theorem ite2 {c A B : Prop} [Decidable c] (h1 : c → A) (h2 : ¬ c → B) : if c then A else B := by
  by_cases h : c
  · rw [if_pos h]
    exact h1 h
  · rw [if_neg h]
    exact h2 h
/-! ### heaps -/
/-- all that was tracked is as it was -/
def Same (H H' : Hp) : Prop := ∀ b o, H b = some o → H' b = some o
theorem Same.refl (H : Hp) : Same H H := fun _ _ h => h
theorem Same.trans {H H1 H2 : Hp} (a : Same H H1) (b : Same H1 H2) : Same H H2 := fun c o h => b c o (a c o h)
theorem Same.free {H H' : Hp} (e : Same H H') {l : Addr} (h : H' l = Option.none) : H l = Option.none := by
  cases q : H l with
  | none => rfl
  | some o =>
    rw [e l o q] at h
    cases h
theorem Same.seq {K : PySem.W.Frag} {H H' : Hp} {a : Addr} {xs : List V} (e : Same H H') (h : SqL K H a xs) : SqL K H' a xs := by
  rcases h with (h | ⟨o, h⟩) | h
  · exact .inl (.inl (e _ _ h))
  · exact .inl (.inr ⟨o, e _ _ h⟩)
  · exact .inr h

end L2
end
section
/-! The tree of questions of a sort, asked of keys that are all unlike, sorts. -/
namespace L2
open PySem PySem.W PyProof.Rows
set_option maxHeartbeats 4000000
set_option Elab.async false
set_option linter.unusedVariables false
/-- the places, in some order -/
structure Pm (n : Nat) (p : Array Nat) : Prop where
  perm : p.toList.Perm (List.range n)
section
variable {n : Nat} {p : Array Nat}
theorem Pm.size (h : Pm n p) : p.size = n := by
  have := h.perm.length_eq
  rw [List.length_range, Array.length_toList] at this
  exact this
theorem Pm.lt (h : Pm n p) (n0 : 0 < n) (j : Nat) : p.getD j 0 < n := by
  by_cases c : j < p.size
  · have e : p.getD j 0 = p[j] := by simp [Array.getD, c]
    rw [e]
    exact List.mem_range.mp (h.perm.mem_iff.mp (by simp))
  · have e : p.getD j 0 = 0 := by simp [Array.getD, c]
    rw [e]
    exact n0
theorem Pm.inj (h : Pm n p) {i j : Nat} (hi : i < n) (hj : j < n) (e : p.getD i 0 = p.getD j 0) : i = j := by
  have hi' : i < p.size := by rw [h.size]; exact hi
  have hj' : j < p.size := by rw [h.size]; exact hj
  have e1 : p.getD i 0 = p[i] := by simp [Array.getD, hi']
  have e2 : p.getD j 0 = p[j] := by simp [Array.getD, hj']
  have nd : p.toList.Nodup := h.perm.nodup_iff.mpr List.nodup_range
  rw [e1, e2] at e
  have pw := List.pairwise_iff_getElem.mp nd
  rcases Nat.lt_trichotomy i j with c | c | c
  · exact absurd (by rw [Array.getElem_toList, Array.getElem_toList]; exact e) (pw i j _ _ c)
  · exact c
  · exact absurd (by rw [Array.getElem_toList, Array.getElem_toList]; exact e.symm) (pw j i _ _ c)
theorem Pm.of (h : Pm n p) {q : Array Nat} (hq : q.Perm p) : Pm n q := ⟨(Array.perm_iff_toList_perm.mp hq).trans h.perm⟩
theorem getD_of? {p : Array Nat} {q : Array Nat} {i j : Nat} (h : p[i]? = q[j]?) : p.getD i 0 = q.getD j 0 := by
  rw [Array.getD_eq_getD_getElem?, Array.getD_eq_getD_getElem?, h]
end
/-- the first k rise -/
def Up (key : Nat → Int) (p : Array Nat) (k : Nat) : Prop := ∀ j, 1 ≤ j → j < k → key (p.getD (j - 1) 0) < key (p.getD j 0)
theorem Up.lt {key : Nat → Int} {p : Array Nat} {k : Nat} (h : Up key p k) : ∀ (d i : Nat), i + d + 1 < k → key (p.getD i 0) < key (p.getD (i + d + 1) 0)
  | 0, i, hi => h (i + 1) (by omega) hi
  | d + 1, i, hi => Int.lt_trans (Up.lt h d i (by omega)) (h (i + (d + 1) + 1) (by omega) hi)
theorem Up.lt' {key : Nat → Int} {p : Array Nat} {k i j : Nat} (h : Up key p k) (hij : i < j) (hj : j < k) : key (p.getD i 0) < key (p.getD j 0) := by
  have := h.lt (j - i - 1) i (by omega)
  rwa [show i + (j - i - 1) + 1 = j by omega] at this
section
variable {cmp : Nat → Nat → (Bool → Shared → Prop) → Shared → Prop} {key : Nat → Int} {J : Shared → Prop} {n : Nat} {s : Shared}
/-- each question is answered by the keys -/
def Told (cmp : Nat → Nat → (Bool → Shared → Prop) → Shared → Prop) (key : Nat → Int) (J : Shared → Prop) (n : Nat) : Prop :=
  ∀ i j (C : Bool → Shared → Prop) s, i < n → j < n → J s → (∀ s', J s' → C (decide (key i < key j)) s') → cmp i j C s
theorem go_asc (A : Told cmp key J n) {p : Array Nat} (hp : Pm n p) (n0 : 0 < n) {Q : Nat → Shared → Prop} : ∀ (f m : Nat) (s : Shared), J s → 1 ≤ m → m + f = n →
    (∀ m' s', J s' → m ≤ m' → m' ≤ n → (∀ j, m ≤ j → j < m' → ¬ key (p.getD j 0) < key (p.getD (j - 1) 0)) → (m' < n → key (p.getD m' 0) < key (p.getD (m' - 1) 0)) → Q m' s') → (kas_asc p f m).kasWp cmp Q s
  | 0, m, s, hJ, h1, hf, q => q m s hJ (Nat.le_refl _) (by omega) (fun j a b => by omega) (fun z => by omega)
  | f + 1, m, s, hJ, h1, hf, q => by
    refine A _ _ _ s (hp.lt n0 _) (hp.lt n0 _) hJ fun s' hJ' => ?_
    by_cases c : key (p.getD m 0) < key (p.getD (m - 1) 0)
    · rw [decide_eq_true c]
      dsimp only
      rw [if_pos rfl]
      exact q m s' hJ' (Nat.le_refl _) (by omega) (fun j a b => by omega) fun _ => c
    · rw [decide_eq_false c]
      dsimp only
      rw [if_neg Bool.false_ne_true]
      refine go_asc A hp n0 f (m + 1) s' hJ' (by omega) (by omega) fun m' s2 hJ2 a b d e => q m' s2 hJ2 (by omega) b (fun j x y => ?_) e
      by_cases z : j = m
      · rw [z]; exact c
      · exact d j (by omega) y
theorem go_desc (A : Told cmp key J n) {p : Array Nat} (hp : Pm n p) (n0 : 0 < n) (inj : ∀ i j, i < n → j < n → key i = key j → i = j) {Q : Array Nat × Nat × Nat → Shared → Prop} : ∀ (f m : Nat) (s : Shared), J s → 2 ≤ m → m + f = n →
    (∀ j, 1 ≤ j → j < m → key (p.getD j 0) < key (p.getD (j - 1) 0)) →
    (∀ m' s', J s' → m ≤ m' → m' ≤ n → (∀ j, 1 ≤ j → j < m' → key (p.getD j 0) < key (p.getD (j - 1) 0)) → Q (p, m', 0) s') → (kas_desc f p m 0).kasWp cmp Q s
  | 0, m, s, hJ, h1, hf, dn, q => q m s hJ (Nat.le_refl _) (by omega) dn
  | f + 1, m, s, hJ, h1, hf, dn, q => by
    refine A _ _ _ s (hp.lt n0 _) (hp.lt n0 _) hJ fun s' hJ' => ?_
    by_cases c : key (p.getD m 0) < key (p.getD (m - 1) 0)
    · rw [decide_eq_true c]
      dsimp only
      rw [if_pos rfl, if_neg (by decide)]
      refine go_desc A hp n0 inj f (m + 1) s' hJ' (by omega) (by omega) (fun j x y => ?_) fun m' s2 hJ2 a b d => q m' s2 hJ2 (by omega) b d
      by_cases z : j = m
      · rw [z]; exact c
      · exact dn j x (by omega)
    · rw [decide_eq_false c]
      dsimp only
      rw [if_neg Bool.false_ne_true]
      refine A _ _ _ s' (hp.lt n0 _) (hp.lt n0 _) hJ' fun s2 hJ2 => ?_
      have ne : key (p.getD m 0) ≠ key (p.getD (m - 1) 0) := fun e => by
        have := hp.inj (by omega) (by omega) (inj _ _ (hp.lt n0 _) (hp.lt n0 _) e)
        omega
      rw [decide_eq_true (by omega : key (p.getD (m - 1) 0) < key (p.getD m 0))]
      dsimp only
      rw [if_pos rfl]
      exact q m s2 hJ2 (Nat.le_refl _) (by omega) dn
theorem up_of_not {p : Array Nat} (hp : Pm n p) (n0 : 0 < n) (inj : ∀ i j, i < n → j < n → key i = key j → i = j) {k : Nat} (hk : k ≤ n) (h : ∀ j, 1 ≤ j → j < k → ¬ key (p.getD j 0) < key (p.getD (j - 1) 0)) : Up key p k := fun j h1 h2 => by
  have ne : key (p.getD j 0) ≠ key (p.getD (j - 1) 0) := fun e => by
    have := hp.inj (by omega) (by omega) (inj _ _ (hp.lt n0 _) (hp.lt n0 _) e)
    omega
  have := h j h1 h2
  omega
theorem go_tail (A : Told cmp key J n) {p : Array Nat} (hp : Pm n p) (n0 : 0 < n) (inj : ∀ i j, i < n → j < n → key i = key j → i = j) {m : Nat} (m1 : 1 ≤ m) (mn : m ≤ n) (hJ : J s) (dn : ∀ j, 1 ≤ j → j < m → key (p.getD j 0) < key (p.getD (j - 1) 0)) {Q : Nat × Array Nat → Shared → Prop}
    (q : ∀ k p' s', J s' → Pm n p' → 1 ≤ k → k ≤ n → Up key p' k → Q (k, p') s') : (kas_tail3 m n p).kasWp cmp Q s := by
  have hp' : Pm n (kas_rev p 0 m) := hp.of (mirror_perm _ _ _ _)
  have at_ : ∀ k, k < m → (kas_rev p 0 m).getD k 0 = p.getD (m - 1 - k) 0 := fun k hk => getD_of? (by
    unfold kas_rev
    rw [getElem?_mirror_all (by rw [hp.size]; exact mn), if_pos ⟨Nat.zero_le _, hk⟩]
    congr 1
    omega)
  unfold kas_tail3
  rw [KasT.kasWp_bind]
  refine go_asc A hp' n0 (n - m) m s hJ m1 (by omega) fun k s' hJ' a b d e => q k _ s' hJ' hp' (by omega) b ?_
  intro j h1 h2
  by_cases c : j < m
  · rw [at_ j c, at_ (j - 1) (by omega)]
    have := dn (m - 1 - (j - 1)) (by omega) (by omega)
    rwa [show m - 1 - (j - 1) - 1 = m - 1 - j by omega] at this
  · have ne : key ((kas_rev p 0 m).getD j 0) ≠ key ((kas_rev p 0 m).getD (j - 1) 0) := fun e => by
      have := hp'.inj (by omega) (by omega) (inj _ _ (hp'.lt n0 _) (hp'.lt n0 _) e)
      omega
    have := d j (by omega) h2
    omega
theorem go_count (A : Told cmp key J n) {p : Array Nat} (hp : Pm n p) (n2 : 2 ≤ n) (inj : ∀ i j, i < n → j < n → key i = key j → i = j) (hJ : J s) {Q : Nat × Array Nat → Shared → Prop}
    (q : ∀ k p' s', J s' → Pm n p' → 1 ≤ k → k ≤ n → Up key p' k → Q (k, p') s') : (kas_count n p).kasWp cmp Q s := by
  have n0 : 0 < n := by omega
  unfold kas_count
  rw [KasT.kasWp_bind]
  refine go_asc A hp n0 (n - 1) 1 s hJ (Nat.le_refl _) (by omega) fun m s' hJ' a b d e => ?_
  have up : Up key p m := up_of_not hp n0 inj b d
  by_cases c : m = n
  · rw [if_pos (by rw [c]; exact beq_self_eq_true n)]
    exact q m p s' hJ' hp a b up
  rw [if_neg (by simpa using c)]
  by_cases c1 : m > 1
  · rw [if_pos c1]
    refine A _ _ _ s' (hp.lt n0 _) (hp.lt n0 _) hJ' fun s2 hJ2 => ?_
    rw [decide_eq_true (up.lt' (show 0 < m - 1 by omega) (by omega))]
    dsimp only
    rw [if_pos rfl]
    exact q m p s2 hJ2 hp a b up
  · rw [if_neg c1]
    have em : m = 1 := by omega
    subst em
    unfold kas_descPart
    rw [KasT.kasWp_bind]
    refine go_desc A hp n0 inj (n - (1 + 1)) (1 + 1) s' hJ' (by omega) (by omega) (fun j x y => ?_) fun m' s2 hJ2 x y z => ?_
    · have ej : j = 1 := by omega
      subst ej
      exact e (by omega)
    · dsimp only
      rw [if_neg (by decide)]
      exact go_tail A hp n0 inj (by omega) y hJ2 z q
theorem go_place (A : Told cmp key J n) {p : Array Nat} (hp : Pm n p) (n0 : 0 < n) {k : Nat} (kn : k < n) (up : Up key p k) {Q : Nat → Shared → Prop} : ∀ (f l r : Nat) (s : Shared), J s → r - l ≤ f → l ≤ r → r ≤ k →
    (∀ j, j < l → ¬ key (p.getD k 0) < key (p.getD j 0)) → (∀ j, r ≤ j → j < k → key (p.getD k 0) < key (p.getD j 0)) →
    (∀ l' s', J s' → l' ≤ k → (∀ j, j < l' → ¬ key (p.getD k 0) < key (p.getD j 0)) → (∀ j, l' ≤ j → j < k → key (p.getD k 0) < key (p.getD j 0)) → Q l' s') → (kas_place p k f l r).kasWp cmp Q s
  | 0, l, r, s, hJ, h1, h2, h3, lo, hi, q => q l s hJ (by omega) lo (by rw [show l = r by omega]; exact hi)
  | f + 1, l, r, s, hJ, h1, h2, h3, lo, hi, q => by
    show KasT.kasWp cmp (if l ≥ r then .ret l else _) Q s
    by_cases c : l ≥ r
    · rw [if_pos c]
      exact q l s hJ (by omega) lo (by rw [show l = r by omega]; exact hi)
    rw [if_neg c]
    refine A _ _ _ s (hp.lt n0 _) (hp.lt n0 _) hJ fun s' hJ' => ?_
    by_cases d : key (p.getD k 0) < key (p.getD ((l + r) / 2) 0)
    · rw [decide_eq_true d]
      dsimp only
      rw [if_pos rfl]
      refine go_place A hp n0 kn up f l ((l + r) / 2) s' hJ' (by omega) (by omega) (by omega) lo (fun j x y => ?_) q
      by_cases z : j = (l + r) / 2
      · rw [z]; exact d
      · exact Int.lt_trans d (up.lt' (by omega) y)
    · rw [decide_eq_false d]
      dsimp only
      rw [if_neg Bool.false_ne_true]
      refine go_place A hp n0 kn up f ((l + r) / 2 + 1) r s' hJ' (by omega) (by omega) (by omega) (fun j x => ?_) hi q
      by_cases z : j = (l + r) / 2
      · rw [z]; exact d
      · have := up.lt' (i := j) (j := (l + r) / 2) (by omega) (by omega)
        omega
theorem go_bin (A : Told cmp key J n) (n0 : 0 < n) (inj : ∀ i j, i < n → j < n → key i = key j → i = j) {Q : Array Nat → Shared → Prop} : ∀ (f : Nat) (p : Array Nat) (k : Nat) (s : Shared), J s → Pm n p → k + f = n → Up key p k →
    (∀ p' s', J s' → Pm n p' → Up key p' n → Q p' s') → (kas_bin f p k).kasWp cmp Q s
  | 0, p, k, s, hJ, hp, hf, up, q => q p s hJ hp (by rw [← hf]; exact up)
  | f + 1, p, k, s, hJ, hp, hf, up, q => by
    have kn : k < n := by omega
    show KasT.kasWp cmp ((kas_place p k k 0 k).bind fun l => kas_bin f (bubble p k (k - l)) (k + 1)) Q s
    rw [KasT.kasWp_bind]
    refine go_place A hp n0 kn up k 0 k s hJ (by omega) (Nat.zero_le _) (Nat.le_refl _) (fun j z => by omega) (fun j x y => by omega) fun l s' hJ' lk lo hi => ?_
    have at_ : ∀ j, (bubble p k (k - l)).getD j 0 = if j = l then p.getD k 0 else if l < j ∧ j ≤ k then p.getD (j - 1) 0 else p.getD j 0 := fun j => by
      have g := getElem?_bubble (xs := p) (src := k) (by rw [hp.size]; exact kn) (k - l) (by omega) j
      rw [show k - (k - l) = l by omega] at g
      split
      · rename_i c; rw [if_pos c] at g; exact getD_of? g
      · rename_i c
        rw [if_neg c] at g
        split
        · rename_i d; rw [if_pos d] at g; exact getD_of? g
        · rename_i d; rw [if_neg d] at g; exact getD_of? g
    refine go_bin A n0 inj f _ (k + 1) s' hJ' (hp.of (bubble_perm _ _ _)) (by omega) (fun j h1 h2 => ?_) q
    rw [at_, at_]
    by_cases c1 : j = l
    · subst c1
      rw [if_neg (by omega), if_neg (by omega), if_pos rfl]
      have := lo (j - 1) (by omega)
      have ne : key (p.getD k 0) ≠ key (p.getD (j - 1) 0) := fun e => by
        have := hp.inj (by omega) (by omega) (inj _ _ (hp.lt n0 _) (hp.lt n0 _) e)
        omega
      omega
    · rw [if_neg c1]
      by_cases c2 : l < j
      · rw [if_pos (show l < j ∧ j ≤ k by omega)]
        by_cases c3 : j - 1 = l
        · rw [if_pos c3]
          exact hi (j - 1) (by omega) (by omega)
        · rw [if_neg c3, if_pos (show l < j - 1 ∧ j - 1 ≤ k by omega)]
          exact up (j - 1) (by omega) (by omega)
      · rw [if_neg (show ¬(l < j ∧ j ≤ k) by omega), if_neg (by omega), if_neg (by omega)]
        exact up j h1 (by omega)
theorem go_sort (A : Told cmp key J n) (n2 : 2 ≤ n) (inj : ∀ i j, i < n → j < n → key i = key j → i = j) (hJ : J s) {Q : Array Nat → Shared → Prop} (q : ∀ p s', J s' → Pm n p → Up key p n → Q p s') : (kas_sort n).kasWp cmp Q s := by
  unfold kas_sort
  rw [KasT.kasWp_bind]
  refine go_count A ⟨by simp⟩ n2 inj hJ fun k p s' hJ' hp k1 kn up => ?_
  dsimp only
  by_cases c : k < n
  · rw [if_pos c, show max k 1 = k by omega]
    exact go_bin A (by omega) inj (n - k) p k s' hJ' hp (by omega) up q
  · rw [if_neg c]
    exact q p s' hJ' hp (by rw [show n = k by omega]; exact up)
end
end L2
end
section
/-! COMPREHENSIONS over the hand layer: the block as a context of its own. -/
namespace L2
open PySem PySem.Spec PyProof.Rows
set_option maxHeartbeats 4000000
set_option Elab.async false
set_option linter.unusedVariables false

/-! ### the names of a block -/
theorem relab_free {env : Env} : ∀ {ns : List (Str × NameKind)} {x : Str}, ns.lookup x = some .free →
    (ns.map fun (n, k) => if (k == NameKind.free && env.scope.kind == .function && env.kindOf n == some .cell) then (n, NameKind.cell) else (n, k)).lookup x = some .cell ∨
    (ns.map fun (n, k) => if (k == NameKind.free && env.scope.kind == .function && env.kindOf n == some .cell) then (n, NameKind.cell) else (n, k)).lookup x = some .free
  | [], _, h => by simp at h
  | (n, k) :: r, x, h => by
    rw [List.map_cons]
    by_cases e : (x == n) = true
    · rw [List.lookup_cons, e] at h
      have hk : k = .free := by simpa using h
      subst hk
      by_cases q : (NameKind.free == NameKind.free && env.scope.kind == .function && env.kindOf n == some .cell) = true
      · left; dsimp only; rw [if_pos q, List.lookup_cons, e]
      · right; dsimp only; rw [if_neg q, List.lookup_cons, e]
    · have e' : (x == n) = false := by simpa using e
      rw [List.lookup_cons, e'] at h
      have ih := relab_free (env := env) h
      dsimp only
      split <;> (rw [List.lookup_cons, e']; exact ih)
theorem relab_back {env : Env} : ∀ {ns : List (Str × NameKind)} {x : Str} {k : NameKind}, (∀ y ∈ ns, y.2 ≠ .cell) → (k = .cell ∨ k = .free) →
    (ns.map fun (n, k) => if (k == NameKind.free && env.scope.kind == .function && env.kindOf n == some .cell) then (n, NameKind.cell) else (n, k)).lookup x = some k → (x, NameKind.free) ∈ ns
  | [], _, _, _, _, h => by simp at h
  | (n, k') :: r, x, k, nc, hk, h => by
    rw [List.map_cons] at h
    have ih := relab_back (env := env) (ns := r) (x := x) (k := k) (fun y hy => nc y (List.mem_cons_of_mem _ hy)) hk
    by_cases e : (x == n) = true
    · have ex : x = n := by simpa using e
      subst ex
      by_cases q : (k' == NameKind.free && env.scope.kind == .function && env.kindOf x == some .cell) = true
      · have : k' = .free := by
          cases k' <;> first | rfl | (simp at q)
        subst this
        exact List.mem_cons_self
      · dsimp only at h
        rw [if_neg q, List.lookup_cons, e] at h
        have : k' = k := by simpa using h
        subst this
        rcases hk with z | z
        · exact absurd z (nc (x, k') List.mem_cons_self)
        · subst z; exact List.mem_cons_self
    · have e' : (x == n) = false := by simpa using e
      refine List.mem_cons_of_mem _ (ih ?_)
      dsimp only at h
      split at h <;> (rw [List.lookup_cons, e'] at h; exact h)

/-! ### what a block closes over -/
theorem clos_step {env : Env} : ∀ (ns : List (Str × NameKind)) (acc : List (Str × Addr)), (∀ y ∈ ns, y.2 = .free → ∃ c, env.cells.lookup y.1 = some c) →
    (∀ x c, acc.lookup x = some c → env.cells.lookup x = some c) →
    ∃ cl : List (Str × Addr), (forIn ns acc fun x r => (match x with | (name, kind) => if (kind == NameKind.free) = true then do let c ← cellOf env name; pure (ForInStep.yield ((name, c) :: r)) else pure (ForInStep.yield r) : Sem (ForInStep (List (Str × Addr)))) : Sem (List (Str × Addr))) = pure cl ∧
      (∀ x c, cl.lookup x = some c → env.cells.lookup x = some c) ∧ (∀ x, (x, NameKind.free) ∈ ns → ∃ c, cl.lookup x = some c) ∧ ∀ x c, acc.lookup x = some c → ∃ c', cl.lookup x = some c'
  | [], acc, _, hacc => ⟨acc, rfl, hacc, fun _ h => absurd h (by simp), fun x c h => ⟨c, h⟩⟩
  | (n, k) :: r, acc, hfr, hacc => by
    by_cases q : (k == NameKind.free) = true
    · have hk : k = .free := by cases k <;> first | rfl | (simp at q)
      subst hk
      obtain ⟨c, hc⟩ := hfr (n, .free) List.mem_cons_self rfl
      have hof : cellOf env n = pure c := by unfold cellOf; rw [hc]
      obtain ⟨cl, h1, h2, h3, h4⟩ := clos_step (env := env) r ((n, c) :: acc) (fun y hy => hfr y (List.mem_cons_of_mem _ hy)) (fun x c' h => by
        by_cases e : (x == n) = true
        · have ex : x = n := by simpa using e
          subst ex
          rw [List.lookup_cons, e] at h
          have : c = c' := by simpa using h
          rw [← this]; exact hc
        · have e' : (x == n) = false := by simpa using e
          rw [List.lookup_cons, e'] at h
          exact hacc x c' h)
      refine ⟨cl, ?_, h2, fun x hx => ?_, fun x c' h => ?_⟩
      · rw [List.forIn_cons]
        dsimp only
        rw [if_pos q, hof]
        exact h1
      · rcases List.mem_cons.mp hx with e | e
        · cases e
          exact h4 n c (by simp)
        · exact h3 x e
      · by_cases e : (x == n) = true
        · have ex : x = n := by simpa using e
          subst ex
          exact h4 x c (by simp)
        · have e' : (x == n) = false := by simpa using e
          exact h4 x c' (by rw [List.lookup_cons, e']; exact h)
    · obtain ⟨cl, h1, h2, h3, h4⟩ := clos_step (env := env) r acc (fun y hy => hfr y (List.mem_cons_of_mem _ hy)) hacc
      refine ⟨cl, ?_, h2, fun x hx => ?_, h4⟩
      · rw [List.forIn_cons]
        dsimp only
        rw [if_neg q]
        exact h1
      · rcases List.mem_cons.mp hx with e | e
        · cases e
          exact absurd rfl q
        · exact h3 x e
theorem clos_of {env : Env} {scope : Scope} (hfr : ∀ y ∈ scope.names, y.2 = .free → ∃ c, env.cells.lookup y.1 = some c) :
    ∃ cl : List (Str × Addr), closureFor scope env = pure cl ∧ (∀ x c, cl.lookup x = some c → env.cells.lookup x = some c) ∧ ∀ x, (x, NameKind.free) ∈ scope.names → ∃ c, cl.lookup x = some c := by
  obtain ⟨cl, h1, h2, h3, _⟩ := clos_step (env := env) scope.names [] hfr (fun x c h => by simp at h)
  refine ⟨cl, ?_, h2, h3⟩
  unfold closureFor
  dsimp only
  rw [h1]
  rfl

/-! ### the block -/
/-- the outer names' values, behind nt targets -/
def inner (nt : Nat) (js : List Nat) (σ : St) : St := List.replicate nt none ++ js.map fun j => (σ[j]?).join
/-- the context of the block -/
def blk (X : Cx) (N : List Str) (scope : Scope) (cl : List (Str × Addr)) (C : Addr) (s : Shared) (H : Hp) (fp : List Addr) : Cx :=
  { X with N := N, s₀ := s, H₀ := H, env := compEnvC scope cl C X.env, outer := X.stack, ex := fp, fn := fun _ => false, pn := [], xe := fun _ _ => False }
/-- what a block asks of the two scopes: sc the outer one, N0 the outer names -/
structure Blk (sc : Scope) (N0 : List Str) (N : List Str) (nt : Nat) (js : List Nat) (scope : Scope) : Prop where
  kind : scope.kind = .function
  loc : ∀ y ∈ scope.names, y.2 = .local → scope.names.lookup y.1 = some .local
  nocell : ∀ y ∈ scope.names, y.2 ≠ .cell
  cap : ∀ y ∈ scope.names, y.2 = .free → sc.names.lookup y.1 = some .cell ∨ sc.names.lookup y.1 = some .free
  len : N.length = nt + js.length
  out : N.drop nt = js.map fun j => N0.getD j ""
  js : ∀ j ∈ js, j < N0.length
  fr : ∀ x ∈ N.drop nt, scope.names.lookup x = some .free
  nd : N.Nodup

theorem inner_get {nt : Nat} {js : List Nat} {σ : St} {i : Nat} {v : V} (h : (inner nt js σ)[i]? = some (some v)) : ∃ k j, i = nt + k ∧ js[k]? = some j ∧ σ[j]? = some (some v) := by
  unfold inner at h
  by_cases hi : i < nt
  · rw [List.getElem?_append_left (by simpa using hi), List.getElem?_replicate, if_pos hi] at h
    cases h
  · rw [List.getElem?_append_right (by simpa using hi), List.length_replicate, List.getElem?_map] at h
    cases e : js[i - nt]? with
    | none => rw [e] at h; cases h
    | some j =>
      rw [e] at h
      refine ⟨i - nt, j, by omega, e, ?_⟩
      have h' : (σ[j]?).join = some v := by simpa using h
      cases e2 : σ[j]? with
      | none => rw [e2] at h'; cases h'
      | some o => rw [e2] at h'; cases o with
        | none => cases h'
        | some w => have : w = v := by simpa using h'
                    rw [this]

section
variable {X : Cx} {pins : List (Addr × Obj)} {σ : St} {H : Hp} {s : Shared} {N : List Str} {nt : Nat} {js : List Nat} {scope : Scope} {cl : List (Str × Addr)} {fp : List Addr}
theorem blk_start {h' : Heap} {tk : Nat} (I : Inv X pins σ H s) (B : Blk X.env.scope X.N N nt js scope)
    (c1 : ∀ x c, cl.lookup x = some c → X.env.cells.lookup x = some c) (c2 : ∀ x, (x, NameKind.free) ∈ scope.names → ∃ c, cl.lookup x = some c)
    (hf : ∀ b ∈ fp, FpOk X pins H b) (hlt : ∀ b ∈ fp, b < s.heap.objs.size)
    (kp : ∀ b o, s.heap.get? b = some o → h'.get? b = some o) (hC : h'.Ns (s.heap.objs.size + 1) fun _ => none)
    (hD : h'.get? s.heap.objs.size = some { cls := .type "list", data := .seq ([] : List Value).toArray 0 }) :
    Inv (blk X N scope cl (s.heap.objs.size + 1) s H fp) [] (inner nt js σ) (upd H s.heap.objs.size (.lst [])) { s with heap := h', toks := tk } := by
  have hfr : ∀ a, s.heap.objs.size ≤ a → H a = none := fun a ha => I.hok.fresh ha
  have cold : ∀ x c, X.env.cells.lookup x = some c → c < s.heap.objs.size := fun x c e => by
    obtain ⟨v, q⟩ := I.cell x c e
    exact q.lt
  refine ⟨⟨I.ok.mod, B.kind, I.ok.glob, I.ok.blt, Nat.le_succ _, fun x y c a b => I.ok.inj x y c (c1 x c a) (c1 y c b), fun x hx => ?_, fun x c z _ => absurd z Bool.false_ne_true, I.ok.hd, I.ok.frames, .inl rfl, fun b hb => ?_, I.bs, Nat.le_trans I.ok.bsz I.sz, fun b o e hb => ?_, fun b hb z => ?_, I.stack, I.stkFree⟩,
    rfl, I.bare, Un.laid kp (Nat.le_refl _) (hfr _ (Nat.le_refl _)), ⟨_, hC, fun i x v h1 h2 h3 => ?_⟩, fun x c e => ?_, ?_, fun x c e => ?_, fun p hp => absurd (show p ∈ ([] : List (Addr × Obj)) from hp) (by simp), I.hok.laid kp (Nat.le_refl _) ⟨Nat.zero_le _, [], 0, .nil, hD⟩, ?_⟩
  · have : (x, NameKind.free) ∈ scope.names := hx.elim (fun z => relab_back B.nocell (.inl rfl) z) fun z => relab_back B.nocell (.inr rfl) z
    exact c2 x this
  · refine ⟨Nat.ne_of_lt (Nat.lt_succ_of_lt (hlt b hb)), fun x c e => (hf b hb).2.2.2.2.1 x c (c1 x c e)⟩
  · rcases (hf b hb).2.2.2.1 with z | z
    · exact I.ok.noex b o e z
    · exact absurd (Nat.lt_of_lt_of_le (Heap.lt_size (I.ok.bs b o e).1) z) (Nat.lt_irrefl _)
  · rcases List.mem_cons.mp (I.stkSub b z) with q | q
    · exact (hf b hb).2.1 q
    · exact (hf b hb).2.2.1 q
  · obtain ⟨k, j, rfl, hk, hv⟩ := inner_get h2
    have hkl : k < js.length := (List.getElem?_eq_some_iff.mp hk).1
    have h1' : (N.drop nt)[k]? = some x := by rw [List.getElem?_drop]; exact h1
    have hxm : x ∈ N.drop nt := List.mem_of_getElem? h1'
    have hfree : scope.names.lookup x = some .free := B.fr x hxm
    have hj : X.N[j]? = some x := by
      rw [B.out, List.getElem?_map, hk] at h1'
      have hjl : j < X.N.length := B.js j (List.mem_of_getElem? hk)
      rw [List.getElem?_eq_getElem hjl]
      have e : X.N.getD j "" = x := by simpa using h1'
      rw [← e]
      simp [List.getD_eq_getElem?_getD, List.getElem?_eq_getElem hjl]
    have hcap := B.cap _ (PySem.mem_of_lookup hfree) rfl
    obtain ⟨m, hn, hl⟩ := I.loc
    obtain ⟨u, ru, lk⟩ := hl j x v hj hv (hcap.elim (fun z => .inr (.inl z)) fun z => .inr (.inr z))
    refine ⟨u, ru, .inr ⟨relab_free hfree, ?_⟩⟩
    rcases lk with ⟨z, _⟩ | ⟨_, c, e, q⟩
    · exact absurd (show X.env.scope.names.lookup x = some .local from z) (by rcases hcap with y | y <;> (rw [y]; decide))
    · obtain ⟨c', e'⟩ := c2 x (PySem.mem_of_lookup hfree)
      have ec := c1 x c' e'
      rw [e] at ec
      cases ec
      obtain ⟨o, ho, hd⟩ := q
      exact ⟨c, e', o, kp c o ho, hd⟩
  · obtain ⟨v, o, ho, hd⟩ := I.cell x c (c1 x c e)
    exact ⟨v, o, kp c o ho, hd⟩
  · show upd H _ _ (s.heap.objs.size + 1) = none
    rw [upd_ne (Nat.ne_of_gt (Nat.lt_succ_self _))]
    exact hfr _ (Nat.le_succ _)
  · show upd H _ _ c = none
    rw [upd_ne (Nat.ne_of_lt (cold x c (c1 x c e)))]
    exact I.freeC x c (c1 x c e)
  · show (inner nt js σ).length = N.length
    unfold inner
    rw [List.length_append, List.length_replicate, List.length_map, B.len]
end

/-! ### the tests of a clause -/
def PTs (X : Cx) (ifs : List Expr) (t : TT) : Prop :=
  ∀ (pins : List (Addr × Obj)) (s : Shared) (σ : St) (H : Hp) (Q : Bool → Hp → Prop), Inv X pins σ H s → t σ H Q →
    wpAny (model X.prog X.w) X.A (forIn ifs true fun c r => if r = true then do let ok ← isTrue c X.env (eval c X.env); pure (ForInStep.yield ok) else pure (ForInStep.yield r)) (TP X pins σ Q) X.xe s
def tYes : TT := fun _ H Q => Q true H
theorem pts_nil {X : Cx} : PTs X [] tYes := fun _ _ _ H _ I h => wpAny_tests_nil ⟨H, I, h⟩
theorem pts_one {X : Cx} {c : Expr} {t : TT} (h : PT X c t) : PTs X [c] t := fun pins s σ H Q I q => wpAny_tests_one (h pins s σ H Q I q)

/-! ### the loop -/
section
variable {prog : Program} {w : World} {A : Around} {s : Shared} {R : Result → Shared → Prop}
theorem comp_turns {elt tg iter : Expr} {ifs : List Expr} {scope : Scope} {pos : Pos} {it acc : Value} {env : Env} (J : Nat → Shared → Prop)
    (turn : ∀ n s, J n s → wpAny (model prog w) A (pyNext it) (fun r s1 => match r with
      | none => R (.ok .next) s1
      | some v => wpAny (model prog w) A (letOwnedTupleGo tg it v) (fun _ s2 => wpAny (model prog w) A (assign tg env v) (fun _ s3 =>
          wpAny (model prog w) A (forIn ifs true fun c r => if r = true then do let ok ← isTrue c env (eval c env); pure (ForInStep.yield ok) else pure (ForInStep.yield r)) (fun ok s4 =>
            if ok = true then wpAny (model prog w) A (eval elt env) (fun x s5 => wpAny (model prog w) A (call (.builtin "list.append") [acc, x]) (fun _ s6 => ∃ m, m < n ∧ J m s6) (fun _ _ => False) s5) (fun _ _ => False) s4
            else ∃ m, m < n ∧ J m s4) (fun _ _ => False) s3) (fun _ _ => False) s2) (fun _ _ => False) s1) (fun _ _ => False) s)
    (n : Nat) (h : J n s) : codeAny (model prog w) A (.compLoop (.ListComp elt [⟨tg, iter, ifs, 0⟩] scope pos) 0 it acc env) R s := by
  refine codeAny_loop rfl J (fun k s' hJ => ?_) n h
  show wpAny _ A ((compTurn (.ListComp elt [⟨tg, iter, ifs, 0⟩] scope pos) 0 it acc env).onRaise (fun x => do noteFrame x env; theTreesLotGoes x)) _ _ s'
  refine wpAny_noted ?_
  rw [compTurn_list]
  refine wpAny_bind (wpAny_standAt (wpAny_bind (wpAny_mono (turn k s' hJ) (fun r s1 q1 => ?_) fun _ _ z => z.elim)))
  cases r with
  | none => exact wpAny_pure q1
  | some v =>
    refine wpAny_bind (wpAny_mono q1 (fun _ s2 q2 => wpAny_bind (wpAny_mono q2 (fun _ s3 q3 => wpAny_bind (wpAny_mono q3 (fun ok s4 q4 => ?_) fun _ _ z => z.elim)) fun _ _ z => z.elim)) fun _ _ z => z.elim)
    cases ok with
    | false => exact wpAny_pure ⟨rfl, q4⟩
    | true => exact wpAny_bind (wpAny_bind (wpAny_mono q4 (fun x s5 q5 => wpAny_bind (wpAny_mono q5 (fun _ s6 q6 => wpAny_pure (wpAny_pure ⟨rfl, q6⟩)) fun _ _ z => z.elim)) fun _ _ z => z.elim))
end

/-! ### THE RULE -/
/-- W: the invariant by the turn and a measure; D: the new list -/
def cmpW (J : It) (g : TG) (tt : TT) (te : TE) (Q : VK) (D : Addr) (σ0 : St) (H1 : Hp) : Prop := ∃ W : Nat → Nat → St → Hp → Prop, (∃ m, W 0 m σ0 (upd H1 D (.lst []))) ∧
  ∀ i m σ' H', W i m σ' H' → (J.stop i H' ∧ Q (.ref D) H') ∨ (J.go i H' ∧ ∀ x H2, J.yld i H' x H2 → g x σ' H2 fun σ3 H3 => tt σ3 H3 fun ok H4 =>
    if ok = true then te σ3 H4 fun y H5 => ∃ ys, H5 D = some (.lst ys) ∧ ys.length < sizeLine ∧ ∃ m', m' < m ∧ W (i + 1) m' σ3 (upd H5 D (.lst (ys ++ [y]))) else ∃ m', m' < m ∧ W (i + 1) m' σ3 H4)
def tComp (nt : Nat) (js : List Nat) (wi : TI) (g : TG) (tt : TT) (te : TE) : TE := fun σ H Q => wi σ H fun J H1 => ∀ D, H1 D = none → cmpW J g tt te Q D (inner nt js σ) H1
theorem pe_comp {X : Cx} {elt tg iter : Expr} {ifs : List Expr} {scope : Scope} {pos : Pos} {N : List Str} {nt : Nat} {js : List Nat} {sc : Scope} {N0 : List Str} {wi : TI} {g : TG} {tt : TT} {te : TE}
    (hc : X.calm = true) (hsc : X.env.scope = sc) (hN : X.N = N0) (B : Blk sc N0 N nt js scope) (hi : PI X tg iter wi)
    (hg : ∀ cl C s H fp, PG (blk X N scope cl C s H fp) tg g) (ht : ∀ cl C s H fp, PTs (blk X N scope cl C s H fp) ifs tt) (he : ∀ cl C s H fp, PE (blk X N scope cl C s H fp) elt te)
    (hs : ∀ x, foldedSetIterable iter X.env x = pure x := by intro _; rfl) : PE X (.ListComp elt [⟨tg, iter, ifs, 0⟩] scope pos) (tComp nt js wi g tt te) := by
  subst hsc hN
  intro pins s σ H Q I h
  obtain ⟨cl, hcl, c1, c2⟩ := clos_of (env := X.env) (scope := scope) fun y hy hk => I.ok.has y.1 (B.cap y hy hk)
  rw [eval_ListComp]
  refine wpAny_comprehension_free (use := none) rfl hs hcl B.kind B.loc (thn (hi pins s σ H _ I h) fun v s1 q1 => thn q1 fun itv s2 q2 => ?_)
  obtain ⟨it, fp, tn, J, H2, e, I2, T, st2, f2, q2⟩ := q2
  subst e
  obtain ⟨W, ⟨m0, w0⟩, turn⟩ := q2 s2.heap.objs.size (I2.hok.fresh (Nat.le_refl _))
  have hlt : ∀ b ∈ fp, b < s2.heap.objs.size := fun b hb => by
    obtain ⟨o, eo, _⟩ := T.obj _ _ st2 b hb
    exact Heap.lt_size eo
  refine wpAny_newObj_type (wpAny_newFunctionEnv B.nocell (by intro y hy; simp at hy) (fun h1 hns hsb => ?_) B.kind)
  dsimp only at hns hsb ⊢
  have hsz : (s2.heap.push { cls := .type "list", dict := none, data := .seq ([] : List Value).toArray }).objs.size = s2.heap.objs.size + 1 := by rw [Heap.size_push]
  have old : ∀ b o, s2.heap.get? b = some o → h1.get? b = some o := fun b o eb => hsb.extBut b o (by rw [hsz]; exact Nat.ne_of_lt (Nat.lt_succ_of_lt (Heap.lt_size eb))) (Heap.get?_push_of_some _ (Heap.get?_push_of_some _ eb))
  have hD : h1.get? s2.heap.objs.size = some { cls := .type "list", data := .seq ([] : List Value).toArray 0 } := hsb.extBut _ _ (by rw [hsz]; exact Nat.ne_of_lt (Nat.lt_succ_self _)) (Heap.get?_push_of_some _ (Heap.get?_push_size _ rfl))
  rw [hsz] at hns
  have I3 := blk_start (cl := cl) (fp := fp) (tk := s2.toks + ([] : List (Str × Value)).length) I2 B c1 c2 f2 hlt old (show h1.Ns (s2.heap.objs.size + 1) fun _ => none from hns) hD
  have stat : ∀ {H' : Hp}, (∀ b ∈ fp, H' b = none) → ∀ b ∈ fp, FpOk (blk X N scope cl (s2.heap.objs.size + 1) s2 H2 fp) [] H' b := fun {H'} hn b hb =>
    ⟨hn b hb, Nat.ne_of_lt (Nat.lt_succ_of_lt (hlt b hb)), fun z => (List.mem_cons.mp (I2.stkSub b z)).elim (f2 b hb).2.1 (f2 b hb).2.2.1, .inl hb, fun x c ec => (f2 b hb).2.2.2.2.1 x c (c1 x c ec), fun p hp => absurd (show p ∈ ([] : List (Addr × Obj)) from hp) (by simp)⟩
  have fin : ∀ {i : Nat} {σ' : St} {H' : Hp} {s' : Shared}, Inv (blk X N scope cl (s2.heap.objs.size + 1) s2 H2 fp) [] σ' H' s' → Q (.ref s2.heap.objs.size) H' →
      compPost (model X.prog X.w) X.A X.xe none (EP X pins σ Q) (.ref s2.heap.objs.size) (s2.heap.objs.size + 1) (.ok .next) s' := fun {i σ' H' s'} Ib q => by
    obtain ⟨m, hn, _⟩ := id Ib.loc
    refine ⟨m, hn, fun h'' hs'' => ?_⟩
    have I4 : Inv X pins σ H' s' := I2.call' Ib.os Ib.base Ib.hok Ib.bare fun b hb => ⟨(f2 b hb).2.2.2.1, (f2 b hb).2.1, (f2 b hb).2.2.2.2.1, (f2 b hb).2.2.2.2.2⟩
    obtain ⟨g0, g1, g2, g3, g4, g5⟩ := I2.fpOk (H' := H') (Nat.le_succ _) Ib.free
    exact ⟨.ref s2.heap.objs.size, H', I4.turned (t' := s'.toks) (fun b o hb eb => hs''.extBut b o hb eb) g0 g1 g3 g4 g5, rfl, q⟩
  have loop : codeAny (model X.prog X.w) X.A (.compLoop (.ListComp elt [⟨tg, iter, ifs, 0⟩] scope pos) 0 (.ref it) (.ref s2.heap.objs.size) (compEnvC scope cl (s2.heap.objs.size + 1) X.env))
      (compPost (model X.prog X.w) X.A X.xe none (EP X pins σ Q) (.ref s2.heap.objs.size) (s2.heap.objs.size + 1)) { s2 with heap := h1, toks := s2.toks + ([] : List (Str × Value)).length } := by
    refine comp_turns (fun n s' => ∃ i σ' H', Inv (blk X N scope cl (s2.heap.objs.size + 1) s2 H2 fp) [] σ' H' s' ∧ tn i s'.heap ∧ (∀ b ∈ fp, H' b = none) ∧ W i n σ' H') ?_ m0
      ⟨0, _, _, I3, T.keep _ _ _ st2 fun b _ o eb => old b o eb, fun b hb => ?_, w0⟩
    · rintro n s3 ⟨i, σ3, H3, J3, st3, fr3, w3⟩
      rcases turn i n σ3 H3 w3 with ⟨stop, qn⟩ | ⟨go, step⟩
      · refine thn (T.done (blk X N scope cl (s2.heap.objs.size + 1) s2 H2 fp) rfl rfl rfl hc i [] s3 σ3 H3 _ J3 (stat fr3) st3 stop) fun r s4 ⟨hr, I4⟩ => ?_
        subst hr
        exact fin (i := i) I4 qn
      · refine thn (T.item (blk X N scope cl (s2.heap.objs.size + 1) s2 H2 fp) rfl rfl rfl hc i [] s3 σ3 H3 _ J3 (stat fr3) st3 go) fun r s4 ⟨u, hr, h4⟩ => ?_
        subst hr
        refine thn h4 fun _ s5 ⟨x, H5, I5, r5, y5, st5, fr5⟩ => ?_
        have I5' := I5.pinned (stat fr5) (T.obj _ _ st5)
        refine thn (hg _ _ _ _ _ _ s5 σ3 H5 x u _ I5' r5 (step x H5 y5)) fun _ s6 ⟨σ6, H6, I6, q6⟩ => ?_
        have again : ∀ {σ7 : St} {H7 : Hp} {s7 : Shared} {k : Nat}, Inv (blk X N scope cl (s2.heap.objs.size + 1) s2 H2 fp) ([] ++ pinsAt fp s5.heap) σ7 H7 s7 → k < n → W (i + 1) k σ7 H7 →
            ∃ k, k < n ∧ ∃ i σ' H', Inv (blk X N scope cl (s2.heap.objs.size + 1) s2 H2 fp) [] σ' H' s7 ∧ tn i s7.heap ∧ (∀ b ∈ fp, H' b = none) ∧ W i k σ' H' := fun {σ7 H7 s7 k} I7 hk w7 => by
          refine ⟨k, hk, i + 1, σ7, H7, I7.unpinned, T.keep _ _ _ st5 fun b hb o eb => (I7.pin (b, o) (List.mem_append_right _ (List.mem_append_right _ (mem_pinsAt hb eb)))).1, fun b hb => ?_, w7⟩
          obtain ⟨o, eb, _⟩ := T.obj _ _ st5 b hb
          exact (I7.pin (b, o) (List.mem_append_right _ (List.mem_append_right _ (mem_pinsAt hb eb)))).2.1
        refine thn (ht _ _ _ _ _ _ s6 σ6 H6 _ I6 q6) fun ok s7 ⟨H7, I7, q7⟩ => ?_
        cases ok with
        | false =>
          rw [if_neg Bool.false_ne_true] at q7 ⊢
          obtain ⟨k, hk, w7⟩ := q7
          exact again I7 hk w7
        | true =>
          rw [if_pos rfl] at q7 ⊢
          refine thn (he _ _ _ _ _ _ s7 σ6 H7 _ I7 q7) fun y s8 ⟨v8, H8, I8, r8, ys, e8, z8, k, hk, w8⟩ => ?_
          refine thn (mt_append _ s8 σ6 H8 (.ref s2.heap.objs.size) [v8] _ [y] (fun _ H9 => W (i + 1) k σ6 H9) I8 rfl (.cons r8 .nil) ⟨_, ys, v8, rfl, rfl, e8, z8, w8⟩) fun _ s9 ⟨_, H9, I9, _, w9⟩ => ?_
          exact again I9 hk w9
    · show upd H2 _ _ b = none
      rw [upd_ne (Nat.ne_of_lt (hlt b hb))]
      exact (f2 b hb).1
  rw [hsz]
  exact codeAny_compStart_list loop (T.self _ 0 _ _ _ (T.keep _ _ _ st2 fun b _ o eb => old b o eb) loop)
end L2
end
section
/-! SMALL RULES over the hand layer. -/
namespace L2
open PySem PySem.Spec PyProof.Rows
set_option maxHeartbeats 4000000
set_option Elab.async false
set_option linter.unusedVariables false

section
variable {X : Cx}
/-! ### is True, is False -/
theorem same_bl {x : V} {v : Value} (r : RelV x v) (k : Bool) : (v == Value.bool k) = decide (x = .bl k) ∧ plainIs v (.bool k) = true := by
  cases x with
  | non => cases (show v = Value.none from r); exact ⟨by cases k <;> rfl, rfl⟩
  | bl b => cases (show v = Value.bool b from r); exact ⟨by cases b <;> cases k <;> rfl, rfl⟩
  | int i => obtain ⟨t, rfl⟩ := (show ∃ t, v = Value.int i t from r); exact ⟨rfl, rfl⟩
  | str i => obtain ⟨t, rfl⟩ := (show ∃ t, v = Value.str i t from r); exact ⟨rfl, rfl⟩
  | byt i => obtain ⟨t, rfl⟩ := (show ∃ t, v = Value.bytes i t from r); exact ⟨rfl, rfl⟩
  | flt i => obtain ⟨t, rfl⟩ := (show ∃ t, v = Value.float i t from r); exact ⟨rfl, rfl⟩
  | ref a => cases (show v = Value.ref a from r); exact ⟨rfl, rfl⟩
  | ty n => cases (show v = Value.type n from r); exact ⟨rfl, rfl⟩
theorem op_isntB : OpR X (compareOp .IsNot) (fun x y H Q => ∃ k, y = .bl k ∧ Q (.bl (!decide (x = .bl k))) H) := by
  intro pins s σ H x y v u Q I rx ry h
  obtain ⟨k, rfl, q⟩ := h
  cases (show u = Value.bool k from ry)
  exact wpAny_isNot_plain (same_bl rx k).2 (fin_bl I q (by rw [(same_bl rx k).1]))

/-! ### isinstance of a built-in type -/
/-- what a value is, by the abstract heap -/
inductive Kn (H : Hp) : V → String → Prop where
  | non : Kn H .non "NoneType"
  | bl (b : Bool) : Kn H (.bl b) "bool"
  | int (i : Int) : Kn H (.int i) "int"
  | str (x : Str) : Kn H (.str x) "str"
  | lst {a : Addr} {xs : List V} (e : H a = some (.lst xs)) : Kn H (.ref a) "list"
  | tup {a : Addr} {xs : List V} (e : H a = some (.tup xs)) : Kn H (.ref a) "tuple"
  | dK {a : Addr} {kvs : List (Key × V)} (e : H a = some (.dK kvs)) : Kn H (.ref a) "dict"
theorem Kn.ty {K : PySem.W.Frag} {H : Hp} {v : V} {T : String} (h : Kn H v T) : TyOf K H v (.type T) := by
  cases h with
  | non => exact .non
  | bl b => exact .bl b
  | int i => exact .int i
  | str x => exact .str x
  | lst e => exact .lst e
  | tup e => exact .tup e
  | dK e => exact .dK e
def subT (T U : String) : Bool := T == U || (T == "bool" && U == "int")
theorem kit_int {K : PySem.W.Frag} {H : Hp} {v : V} {T : String} (h : Kn H v T) : PySem.W.kitOne K (.type T) (.type "int") = some (subT T "int") := by
  cases h <;> rfl
theorem kit_bool {K : PySem.W.Frag} {H : Hp} {v : V} {T : String} (h : Kn H v T) : PySem.W.kitOne K (.type T) (.type "bool") = some (subT T "bool") := by
  cases h <;> rfl
theorem kit_tuple {K : PySem.W.Frag} {H : Hp} {v : V} {T : String} (h : Kn H v T) : PySem.W.kitOne K (.type T) (.type "tuple") = some (subT T "tuple") := by
  cases h <;> rfl
theorem kit_list {K : PySem.W.Frag} {H : Hp} {v : V} {T : String} (h : Kn H v T) : PySem.W.kitOne K (.type T) (.type "list") = some (subT T "list") := by
  cases h <;> rfl
theorem call_isi : CallR X (.builtin "isinstance") (fun xs H Q => ∃ x T U, xs = [x, .ty U] ∧ Kn H x T ∧ (U = "int" ∨ U = "bool" ∨ U = "tuple" ∨ U = "list") ∧ Q (.bl (subT T U)) H) := by
  intro pins s σ H xs us Q I r h
  obtain ⟨x, T, U, rfl, hk, hU, q⟩ := h
  obtain ⟨u, c, rfl, rx, rc⟩ := vals2 r
  cases (show c = Value.type U from rc)
  refine isinst_ok I rx hk.ty (b := subT T U) ?_ fun tk => ⟨.bl (subT T U), H, I.tok tk, rfl, q⟩
  rcases hU with rfl | rfl | rfl | rfl
  · exact kit_int hk
  · exact kit_bool hk
  · exact kit_tuple hk
  · exact kit_list hk

/-! ### all of a list of bools -/
theorem call_allB (hc : X.calm = true) : CallR X (.builtin "all") (fun xs H Q => ∃ (p : Addr) (bs : List Bool), xs = [.ref p] ∧ SqL X.K H p (bs.map V.bl) ∧ Q (.bl (bs.all id)) H) := by
  intro pins s σ H xs us Q I r h
  obtain ⟨p, bs, rfl, hq, q⟩ := h
  obtain ⟨u, rfl, rx⟩ := vals1 r
  cases (show u = Value.ref p from rx)
  obtain ⟨its, r', pl, hz⟩ := I.list hq
  have hsz : its.length = bs.length := by have := r'.length; rw [List.length_map] at this; exact this.symm
  refine call_all_walk (wpAny_pyIter_list pl.isList ?_)
  have hne : p ≠ s.heap.objs.size := by
    obtain ⟨o, ho, _⟩ := pl.isList
    exact Nat.ne_of_lt (Heap.lt_size ho)
  refine ⟨_, _, _, its.toArray.size, _, _, fun i => bs.getD i true, rfl, Walks.list (A := X.A.in1) (show X.A.in1.handled = none from I.ok.hd hc) s.heap.objs.size p hne its.toArray, ⟨⟨_, Heap.get?_push_size _ rfl, rfl, rfl⟩, pl.isList.push _⟩, ?_, ?_⟩
  · intro i v s' Q' E' hP hQ
    have hv : its[i]? = some v := by simpa using hP
    have hi : i < its.length := (List.getElem?_eq_some_iff.mp hv).1
    have hb : (bs.map V.bl)[i]? = some (V.bl (bs.getD i true)) := by
      rw [List.getElem?_map, List.getElem?_eq_getElem (by omega)]
      simp [List.getD_eq_getElem?_getD, List.getElem?_eq_getElem (show i < bs.length by omega)]
    obtain ⟨w', hw, rw'⟩ := r'.get hb
    rw [hv] at hw
    cases hw
    cases (show v = Value.bool _ from rw')
    exact wpAny_truthy_bool hQ
  · intro h' tk hk
    have e : (List.range its.toArray.size).all (fun i => bs.getD i true) = bs.all id := by
      rw [List.size_toArray, hsz]
      rw [Bool.eq_iff_iff, List.all_eq_true, List.all_eq_true]
      constructor
      · intro h1 x hx
        obtain ⟨i, hi, rfl⟩ := List.getElem_of_mem hx
        have := h1 i (List.mem_range.mpr hi)
        rw [List.getD_eq_getElem?_getD, List.getElem?_eq_getElem hi] at this
        exact this
      · intro h1 i hi
        have hi' := List.mem_range.mp hi
        rw [List.getD_eq_getElem?_getD, List.getElem?_eq_getElem hi']
        exact h1 _ (List.getElem_mem hi')
    rw [e]
    refine ⟨.bl (bs.all id), H, I.kept (t' := tk) fun b o eb => hk b o (fun z => ?_) (Heap.get?_push_of_some _ eb), rfl, q⟩
    have : b = s.heap.objs.size := by simpa using z
    exact absurd (Heap.lt_size eb) (by rw [this]; exact Nat.lt_irrefl _)

/-! ### t + u of any tuples -/
theorem same_new {H : Hp} {p : Addr} (h : H p = none) (o : HO) : Same H (upd H p o) := fun b u q => by rw [upd_ne (ne_of_none q h)]; exact q
/-! ### t[lo:hi], the whole too -/
def rSlA : V → Option Int → Option Int → Hp → VK → Prop := fun x lo hi H Q => ∃ a xs, x = .ref a ∧ H a = some (.tup xs) ∧ ∀ p H', Same H H' → H' p = some (.tup (cutV xs lo hi)) → Q (.ref p) H'
end

section
variable {prog : Program} {w : World} {A : Around} {E : Value → Shared → Prop} {s : Shared}
/-- t[k] of a tuple is what the tuple's own code tells -/
theorem tup_at {t : Addr} {items : Array Value} {k : Value} {Q : Value → Shared → Prop} (ht : IsTup s.heap t items)
    (h : wpAny (model prog w) A.in1 (Builtin.«tuple.__getitem__» ⟨[.ref t, k], []⟩) (fun fin s' => ∃ v, fin = .done (.ret v) ∧ Q v s') E s) : wpAny (model prog w) A (getItem (.ref t) k) Q E s := by
  have sl := PyProof.Rows.slot_tuple_getitem
  unfold getItem
  wp_walk using wpAny_sequenceKey ht.typeIs (by decide), wpAny_callSpecial?_slot (name := Str.ofString "__getitem__") ht.typeIs sl (wpAny_call_entry sl ht.typeIs entry_tuple_getitem (wpAny_mono h (fun fin s' ⟨v, e, q⟩ => ⟨v, e, wpAny_pure q⟩) fun _ _ e => e) (args_tuple_getitem _ _))
theorem cut_whole {t sl : Addr} {items : Array Value} {vl vu : Value} {lo hi : Option Int} {Q : Value → Shared → Prop} (ht : IsTup s.heap t items) (hs : s.heap.IsSliceOf sl vl vu .none) (pl : IsPart vl lo) (pu : IsPart vu hi)
    (hw : HT.sIx items.size 0 lo = 0 ∧ HT.sIx items.size items.size hi = items.size) (h : Q (.ref t) s) : wpAny (model prog w) A (getItem (.ref t) (.ref sl)) Q E s := by
  have f1 : s.TypeIs (.ref sl) "slice" := let ⟨o, ho, hc, _⟩ := hs; ⟨o, ho, hc⟩
  have f2 := ht.typeIs
  refine tup_at ht ?_
  wp_walk using tupleItemsOf_ ht, HT.sliceApplied_gen hs pl pu
  exact ⟨_, rfl, h⟩
end

section
variable {X : Cx}
theorem sl_tupA : SlR X rSlA := by
  intro pins s σ H x v vl vu lo hi sl Q I rx hs pl pu h
  obtain ⟨a, xs, rfl, hx, q⟩ := h
  cases (show v = Value.ref a from rx)
  by_cases hw : HT.sIx xs.length 0 lo = 0 ∧ HT.sIx xs.length xs.length hi = xs.length
  · obtain ⟨its, r, ht, hz⟩ := I.tuple (SqT.of hx)
    have hlen : its.toArray.size = xs.length := by rw [List.size_toArray]; exact r.length.symm
    refine ⟨"tuple", _, PyProof.Rows.slot_tuple_getitem.lookup, ht.typeIs, cut_whole ht hs pl pu (by rw [hlen]; exact hw) ⟨.ref a, H, I, rfl, q a H (Same.refl H) ?_⟩⟩
    rw [hx]
    unfold cutV
    rw [hw.1, hw.2, List.drop_zero, Nat.sub_zero, List.take_length]
  · exact sl_tup (X := X) pins s σ H (.ref a) _ vl vu lo hi sl Q I rfl hs pl pu ⟨a, xs, rfl, SqT.of hx, hw, fun p hp => q p _ (same_new hp _) upd_same⟩
end
end L2
end
section
/-! zip(a, b) of two lists or two tuples, walked by a loop or a comprehension with a pair as its target.
The built-ins' own code is walked by `wp_walk`; what is said here is what the heap holds behind it. -/
namespace L2
open PySem PySem.Spec PyProof.Rows
set_option maxHeartbeats 4000000
set_option maxRecDepth 100000
set_option Elab.async false
set_option linter.unusedVariables false

/-- an iterator that zip asks, and what it stands upon -/
structure Nx (P : Program) (w : World) (i l : Addr) (pl : Nat → Heap → Prop) (vs : Array Value) : Prop where
  ne : l ≠ i
  there : ∀ k h, pl k h → (∃ o, h.get? i = some o ∧ (∃ c, o.cls = .type c ∧ (c = "list_iterator" ∨ c = "tuple_iterator")) ∧ ∃ f, o.data = .fields f) ∧ ∃ o, h.get? l = some o ∧ (o.cls = .type "list" ∨ o.cls = .type "tuple")
  keep : ∀ k h h', pl k h → (∀ o, h.get? i = some o → h'.get? i = some o) → (∀ o, h.get? l = some o → h'.get? l = some o) → pl k h'
  item : ∀ (A : Around) k (s : Shared) (Q : Value → Shared → Prop) (E : Value → Shared → Prop) x, pl k s.heap → vs[k]? = some x → (∀ h', pl (k + 1) h' → Heap.SameBut i s.heap h' → Q x { s with heap := h' }) →
    wpAny (model P w) A (Builtin.SmallTypes.nextOf (.ref i)) Q E s
  done : ∀ (A : Around) k (s : Shared) (Q : Value → Shared → Prop) (E : Value → Shared → Prop), A.handled = none → pl k s.heap → vs[k]? = none →
    (∀ h' e, Heap.ExtBut i s.heap h' → (∃ o, h'.get? e = some o ∧ o.cls = .type "StopIteration") → E (.ref e) { s with heap := h' }) → wpAny (model P w) A (Builtin.SmallTypes.nextOf (.ref i)) Q E s

theorem nx_list {P : Program} {w : World} {i l : Addr} (vs : Array Value) (hne : l ≠ i) : Nx P w i l (fun k h => h.IsListIter i l k ∧ h.IsList l vs) vs where
  ne := hne
  there := fun k h ⟨⟨o, e, c, d⟩, ⟨o', e', c', _⟩⟩ => ⟨⟨o, e, ⟨_, c, .inl rfl⟩, _, d⟩, o', e', .inl c'⟩
  keep := fun k h h' ⟨a, b⟩ e1 e2 => ⟨a.at e1, b.at e2⟩
  item := fun A k s Q E x ⟨a, b⟩ hx q => wpAny_nextOf_list_item a b hx fun h' a' sb => q h' ⟨a', b.extBut sb.extBut hne⟩ sb
  done := fun A k s Q E hh ⟨a, b⟩ hx q => wpAny_nextOf_list_end hh a b hx q

/-! ### a tuple's iterator -/
/-- one more item: the code walked -/
theorem tn_item (it t : Addr) (i : Nat) (dc : Option Addr) (sl : Array (Option Value)) (items : Array Value) (x : Value) (hx : items[i]? = some x) :
    Meets (Builtin.«tuple_iterator.__next__» ⟨[.ref it], []⟩) (fun _ R s => s.heap.get? it = some ⟨.type "tuple_iterator", dc, .fields #[.ref t, .int i 0], sl⟩ ∧ s.heap.IsTuple t items ∧
      ∀ h', h'.IsTupleIter it t (i + 1) → Heap.SameBut it s.heap h' → R (.ok (.ret x)) { s with heap := h' }) :=
  .of_wp fun prog w A R s h => by
    obtain ⟨hp, g, d, tk, os⟩ := s
    obtain ⟨h1, ⟨⟨c, dc2, dt, sl2⟩, h2, hc, n, hd⟩, h⟩ := h
    simp only at hc hd
    subst hc hd
    simp only at h1 h2
    wp_walk
    rw [Int.toNat_natCast, hx]
    wp_walk
    exact ⟨_, rfl, h _ ⟨_, Heap.get?_update_self _ h1 rfl, rfl, rfl⟩ (.update ..)⟩
/-- no more items -/
theorem tn_end (it t : Addr) (i : Nat) (dc : Option Addr) (sl : Array (Option Value)) (items : Array Value) (hx : items[i]? = none) :
    Meets (Builtin.«tuple_iterator.__next__» ⟨[.ref it], []⟩) (fun A R s => A.handled = none ∧ s.heap.get? it = some ⟨.type "tuple_iterator", dc, .fields #[.ref t, .int i 0], sl⟩ ∧ s.heap.IsTuple t items ∧
      ∀ h' e, Heap.ExtBut it s.heap h' → (∃ o, h'.get? e = some o ∧ o.cls = .type "StopIteration") → R (.error (.ref e)) { s with heap := h' }) :=
  .of_wp fun prog w A R s h => by
    obtain ⟨hp, g, d, tk, os⟩ := s
    obtain ⟨hh, h1, ⟨⟨c, dc2, dt, sl2⟩, h2, hc, n, hd⟩, h⟩ := h
    simp only at hc hd
    subst hc hd
    simp only at h1 h2
    wp_walk
    rw [Int.toNat_natCast, hx]
    wp_walk
    exact wpAny_raiseNew_none hh (h _ _ (fun b o n e => by repeat (first | exact Heap.get?_update_of_ne _ (Ne.symm n) e | refine Heap.get?_push_of_some _ ?_)) ⟨_, Heap.get?_push_size _ rfl, rfl⟩)
theorem nx_tup {P : Program} {w : World} {i l : Addr} (vs : Array Value) (hne : l ≠ i) : Nx P w i l (fun k h => h.IsTupleIter i l k ∧ h.IsTuple l vs) vs where
  ne := hne
  there := fun k h ⟨⟨o, e, c, d⟩, ⟨o', e', c', _⟩⟩ => ⟨⟨o, e, ⟨_, c, .inr rfl⟩, _, d⟩, o', e', .inr c'⟩
  keep := fun k h h' ⟨a, b⟩ e1 e2 => ⟨a.at e1, b.at e2⟩
  item := fun A k s Q E x ⟨a, b⟩ hx q => by
    obtain ⟨⟨c, dc, dt, sl⟩, e, hc, hd⟩ := a
    simp only at hc hd
    subst hc hd
    have hT : s.TypeIs (.ref i) "tuple_iterator" := ⟨_, e, rfl⟩
    exact wpAny_bind (wpAny_callSpecial?_slot (name := Str.ofString "__next__") hT F.slot_tuple_iterator_next (call_meets F.slot_tuple_iterator_next hT F.entry_tuple_iterator_next (F.args_tuple_iterator_next_1 _)
      (tn_item i l k dc sl vs x hx) ⟨e, b, fun h' a' sb => wpAny_pure (q h' ⟨a', b.extBut sb.extBut hne⟩ sb)⟩))
  done := fun A k s Q E hh ⟨a, b⟩ hx q => by
    obtain ⟨⟨c, dc, dt, sl⟩, e, hc, hd⟩ := a
    simp only at hc hd
    subst hc hd
    have hT : s.TypeIs (.ref i) "tuple_iterator" := ⟨_, e, rfl⟩
    exact wpAny_bind (wpAny_callSpecial?_slot (name := Str.ofString "__next__") hT F.slot_tuple_iterator_next (call_meets F.slot_tuple_iterator_next hT F.entry_tuple_iterator_next (F.args_tuple_iterator_next_1 _)
      (tn_end i l k dc sl vs hx) ⟨hh, e, b, q⟩))

/-! ### a turn of zip -/
section
variable {P : Program} {w : World} {A : Around} {E : Value → Shared → Prop} {s : Shared} {z TI TO i j l m : Addr} {p1 p2 : Nat → Heap → Prop} {xs ys : Array Value} {k : Nat}
theorem zip_item {x y a b : Value} {Q : Option Value → Shared → Prop} (nd : [z, TI, TO, i, j].Nodup) (c1 : l ∉ [z, TI, TO, i, j]) (c2 : m ∉ [z, TI, TO, i, j]) (N1 : Nx P w i l p1 xs) (N2 : Nx P w j m p2 ys)
    (hz : IsZip s.heap z TI TO .none) (hTI : IsPair s.heap TI (.ref i) (.ref j)) (hTO : IsPair s.heap TO a b) (q1 : p1 k s.heap) (q2 : p2 k s.heap) (hx : xs[k]? = some x) (hy : ys[k]? = some y)
    (hQ : ∀ h', IsZip h' z TI TO (rawInt s.heap.objs.size) → IsPair h' TO x y → p1 (k + 1) h' → p2 (k + 1) h' → IsPair h' s.heap.objs.size x y → h'.objs.size = s.heap.objs.size + 1 →
      (∀ c o, c ≠ z → c ≠ TO → c ≠ i → c ≠ j → s.heap.get? c = some o → h'.get? c = some o) → Q (some (.ref s.heap.objs.size)) { s with heap := h' }) :
    wpAny (model P w) A (pyNext (.ref z)) Q E s := by
  simp only [List.nodup_cons, List.mem_cons, List.not_mem_nil, or_false, not_or, not_false_eq_true, and_true, List.nodup_nil] at nd c1 c2
  have hT : s.TypeIs (.ref z) "zip" := ⟨_, hz, rfl⟩
  unfold pyNext
  refine wpAny_bind (wpAny_attempt (wpAny_callSpecial?_slot (name := Str.ofString "__next__") hT F.slot_zip_next (wpAny_call_entry F.slot_zip_next hT F.entry_zip_next ?_ (F.args_zip_next_1 _))))
  obtain ⟨hp, g, d, tk, os⟩ := s
  wp_walk using wpAny_onRaise, N1.item _ k _ _ _ x
  · exact N1.keep _ _ _ q1 (fun o e => Heap.get?_update_of_ne _ nd.1.2.2.1 e) fun o e => Heap.get?_update_of_ne _ (Ne.symm c1.1) e
  · exact hx
  intro g2 r2 s2
  have t2 : IsPair g2 TO a b := s2.extBut _ _ nd.2.2.1.1 (Heap.get?_update_of_ne _ nd.1.2.1 hTO)
  wp_walk using wpAny_onRaise, N2.item _ k _ _ _ y
  · exact N2.keep _ _ _ q2 (fun o e => Heap.get?_update_of_ne _ nd.2.2.1.2 (s2.extBut _ _ (Ne.symm nd.2.2.2) (Heap.get?_update_of_ne _ nd.1.2.2.2 e)))
      fun o e => Heap.get?_update_of_ne _ (Ne.symm c2.2.2.1) (s2.extBut _ _ c2.2.2.2.1 (Heap.get?_update_of_ne _ (Ne.symm c2.1) e))
  · exact hy
  intro g4 r4 s4
  have t4 := s4.extBut _ _ nd.2.2.1.2 (Heap.get?_update_self (Obj.mapSeq fun q => q.setIfInBounds 0 x) t2 rfl)
  have nz : TO ≠ z := Ne.symm nd.1.2.1
  have z4 := s4.extBut _ _ nd.1.2.2.2 (Heap.get?_update_of_ne (Obj.mapSeq fun q => q.setIfInBounds 0 x) nz (s2.extBut _ _ nd.1.2.2.1 (Heap.get?_update_self (Obj.mapFields fun q => q.setIfInBounds 0 Value.ellipsis) hz rfl)))
  wp_walk
  refine ⟨_, rfl, wpAny_pure ?_⟩
  have sz : (g4.update TO (Obj.mapSeq fun q => q.setIfInBounds (0 + 1) y)).objs.size = hp.objs.size := by
    rw [Heap.size_after_update, s4.1]
    show (g2.update TO _).objs.size = _
    rw [Heap.size_after_update, s2.1]
    exact Heap.size_after_update ..
  rw [sz]
  have zl : z < hp.objs.size := Heap.lt_size hz
  have last : ∀ {G : Heap} {c : Addr} {o : Obj} {f1 f2 : Obj → Obj}, c ≠ z → G.get? c = some o → ((G.update z f1).update z f2).get? c = some o := fun n e => Heap.get?_update_of_ne _ (Ne.symm n) (Heap.get?_update_of_ne _ (Ne.symm n) e)
  have mid : ∀ {c : Addr} {o : Obj} {T : Obj}, c ≠ TO → g4.get? c = some o → ((g4.update TO (Obj.mapSeq fun q => q.setIfInBounds (0 + 1) y)).push T).get? c = some o := fun n e => Heap.get?_push_of_some _ (Heap.get?_update_of_ne _ (Ne.symm n) e)
  refine hQ _ (Heap.get?_update_self _ (Heap.get?_update_self _ (mid (Ne.symm nz) z4) rfl) rfl) (last nz (Heap.get?_push_of_some _ (Heap.get?_update_self _ t4 rfl)))
    (N1.keep _ _ _ r2 (fun o e => last (Ne.symm nd.1.2.2.1) (mid (Ne.symm nd.2.2.1.1) (s4.extBut _ _ nd.2.2.2 (Heap.get?_update_of_ne _ nd.2.2.1.1 e))))
      fun o e => last c1.1 (mid c1.2.2.1 (s4.extBut _ _ c1.2.2.2.2 (Heap.get?_update_of_ne _ (Ne.symm c1.2.2.1) e))))
    (N2.keep _ _ _ r4 (fun o e => last (Ne.symm nd.1.2.2.2) (mid (Ne.symm nd.2.2.1.2) e)) fun o e => last c2.1 (mid c2.2.2.1 e))
    (last (Nat.ne_of_gt zl) (Heap.get?_push_at sz.symm rfl)) ?_ fun c o n1 n2 n3 n4 e => last n1 (mid n2 (s4.extBut _ _ n4 (Heap.get?_update_of_ne _ (Ne.symm n2) (s2.extBut _ _ n3 (Heap.get?_update_of_ne _ (Ne.symm n1) e)))))
  rw [Heap.size_after_update, Heap.size_after_update, Heap.size_push, sz]
theorem zip_done {a b : Value} {Q : Option Value → Shared → Prop} (hh : A.handled = none) (nd : [z, TI, TO, i, j].Nodup) (c1 : l ∉ [z, TI, TO, i, j]) (c2 : m ∉ [z, TI, TO, i, j]) (N1 : Nx P w i l p1 xs) (N2 : Nx P w j m p2 ys)
    (hz : IsZip s.heap z TI TO .none) (hTI : IsPair s.heap TI (.ref i) (.ref j)) (hTO : IsPair s.heap TO a b) (q1 : p1 k s.heap) (q2 : p2 k s.heap) (hend : xs[k]? = none ∨ ys[k]? = none)
    (hQ : ∀ h', (∀ c o, c ≠ z → c ≠ TO → c ≠ i → c ≠ j → s.heap.get? c = some o → h'.get? c = some o) → Q none { s with heap := h' }) : wpAny (model P w) A (pyNext (.ref z)) Q E s := by
  simp only [List.nodup_cons, List.mem_cons, List.not_mem_nil, or_false, not_or, not_false_eq_true, and_true, List.nodup_nil] at nd c1 c2
  have hT : s.TypeIs (.ref z) "zip" := ⟨_, hz, rfl⟩
  have stop : ∀ (G : Heap) (e : Addr) (o : Obj), G.get? z = some ⟨.type "zip", none, .fields #[.ellipsis, .bool false, .bool false, .ref TI, .ref TO], #[]⟩ → G.get? e = some o → o.cls = .type "StopIteration" →
      (∀ c o, c ≠ z → c ≠ TO → c ≠ i → c ≠ j → s.heap.get? c = some o → G.get? c = some o) →
      wpAny (model P w) A.in1 (setField (.ref z) 0 .none) (fun _ s'' => wpAny (model P w) A (do if (← isInstance (.ref e) (.type "StopIteration")) = true then pure none else throw (.ref e)) Q E s'') (fun e' s'' => wpAny (model P w) A (do if (← isInstance e' (.type "StopIteration")) = true then pure none else throw e') Q E s'') { s with heap := G } := fun G e o g1 g2 hc kp => by
    have ne : z ≠ e := fun q => by subst q; rw [g1] at g2; cases g2; exact absurd (show Value.type "zip" = Value.type "StopIteration" from hc) (by decide)
    have g3 := Heap.get?_update_of_ne (Obj.mapFields fun q => q.setIfInBounds 0 Value.none) ne g2
    obtain ⟨hp, gs, d, tk, os⟩ := s
    have ht : Shared.TypeIs ⟨G.update z (Obj.mapFields fun q => q.setIfInBounds 0 Value.none), gs, d, tk, os⟩ (.ref e) "StopIteration" := ⟨o, g3, hc⟩
    have sub := isSubtype_stop
    wp_walk
    exact hQ _ fun c o n1 n2 n3 n4 q => Heap.get?_update_of_ne _ (Ne.symm n1) (kp c o n1 n2 n3 n4 q)
  unfold pyNext
  refine wpAny_bind (wpAny_attempt (wpAny_callSpecial?_slot (name := Str.ofString "__next__") hT F.slot_zip_next (wpAny_call_entry F.slot_zip_next hT F.entry_zip_next ?_ (F.args_zip_next_1 _))))
  have z1 := Heap.get?_update_self (Obj.mapFields fun q => q.setIfInBounds 0 Value.ellipsis) hz rfl
  obtain ⟨hp, g, d, tk, os⟩ := s
  have f1 : p1 k (hp.update z (Obj.mapFields fun q => q.setIfInBounds 0 Value.ellipsis)) := N1.keep _ _ _ q1 (fun o e => Heap.get?_update_of_ne _ nd.1.2.2.1 e) fun o e => Heap.get?_update_of_ne _ (Ne.symm c1.1) e
  cases hx : xs[k]? with
  | none =>
    wp_walk using wpAny_onRaise, N1.done _ k
    · exact hh
    · exact f1
    · exact hx
    intro g2 e s2 he
    obtain ⟨o, ho, hc⟩ := he
    exact stop g2 e o (s2 _ _ nd.1.2.2.1 z1) ho hc fun c o n1 n2 n3 n4 q => s2 _ _ n3 (Heap.get?_update_of_ne _ (Ne.symm n1) q)
  | some x =>
    have hy : ys[k]? = none := hend.resolve_left (by rw [hx]; exact nofun)
    wp_walk using wpAny_onRaise, N1.item _ k _ _ _ x
    · exact f1
    · exact hx
    intro g2 r2 s2
    have t2 : IsPair g2 TO a b := s2.extBut _ _ nd.2.2.1.1 (Heap.get?_update_of_ne _ nd.1.2.1 hTO)
    wp_walk using wpAny_onRaise, N2.done _ k
    · exact hh
    · exact N2.keep _ _ _ q2 (fun o e => Heap.get?_update_of_ne _ nd.2.2.1.2 (s2.extBut _ _ (Ne.symm nd.2.2.2) (Heap.get?_update_of_ne _ nd.1.2.2.2 e)))
        fun o e => Heap.get?_update_of_ne _ (Ne.symm c2.2.2.1) (s2.extBut _ _ c2.2.2.2.1 (Heap.get?_update_of_ne _ (Ne.symm c2.1) e))
    · exact hy
    intro g4 e s4 he
    obtain ⟨o, ho, hc⟩ := he
    exact stop g4 e o (s4 _ _ nd.1.2.2.2 (Heap.get?_update_of_ne _ (Ne.symm nd.1.2.1) (s2.extBut _ _ nd.1.2.2.1 z1))) ho hc
      fun c o n1 n2 n3 n4 q => s4 _ _ n4 (Heap.get?_update_of_ne _ (Ne.symm n2) (s2.extBut _ _ n3 (Heap.get?_update_of_ne _ (Ne.symm n1) q)))
end
end L2
end
section
/-! zip walked; ranges as lists and tuples; the empty dict. -/
namespace L2
open PySem PySem.Spec PyProof.Rows
set_option maxHeartbeats 4000000
set_option maxRecDepth 100000
set_option Elab.async false
set_option linter.unusedVariables false

/-! ### ranges -/
section
variable {prog : Program} {w : World} {A : Around} {E : Value → Shared → Prop} {s : Shared} {r : Addr} {a b c : Int} {t u v : Tok} {n : Nat}
end
/-- the ints lo, lo + 1, .. (n of them) -/
def ups (lo : Int) (n : Nat) : List Int := (List.range n).map fun (k : Nat) => lo + (k : Int)
theorem ups_length (lo : Int) (n : Nat) : (ups lo n).length = n := by unfold ups; rw [List.length_map, List.length_range]
theorem vals_items {lo : Int} {n : Nat} {acc : Array Value} (h : ItemsOf (fun i v => ∃ t, v = Value.int (lo + i * 1) t) acc n) : Vals ((ups lo n).map V.int) acc.toList := by
  have : ∀ (us : List Value) (ns : List Int), us.length = ns.length → (∀ (j : Nat) (u : Value), us[j]? = some u → ∃ t, ∃ i, ns[j]? = some i ∧ u = Value.int i t) → Vals (ns.map V.int) us := by
    intro us
    induction us with
    | nil => intro ns hl _; cases ns with
      | nil => exact .nil
      | cons => cases hl
    | cons x r ih =>
      intro ns hl hh
      cases ns with
      | nil => cases hl
      | cons n ns =>
        obtain ⟨t, i, e1, e2⟩ := hh 0 x rfl
        have : n = i := by simpa using e1
        subst this
        exact .cons ⟨t, e2⟩ (ih ns (by simpa using hl) fun j u hj => hh (j + 1) u (by simpa using hj))
  refine this _ _ (by rw [ups_length, Array.length_toList]; exact h.1) fun j u hj => ?_
  have hj' : acc[j]? = some u := by simpa using hj
  obtain ⟨t, e⟩ := h.2 j u hj'
  have hjn : j < n := by rw [← h.1]; exact (Array.getElem?_eq_some_iff.mp hj').1
  refine ⟨t, lo + (j : Int), ?_, by rw [e, Int.mul_one]⟩
  unfold ups
  rw [List.getElem?_map, List.getElem?_range hjn]
  rfl
section
variable {X : Cx}
theorem call_rng2 : CallR X (.type "range") (fun xs H Q => ∃ i j : Int, xs = [.int i, .int j] ∧ ∀ p, H p = none → Q (.ref p) (upd H p (.rng i j))) := by
  intro pins s σ H xs us Q I r h
  obtain ⟨i, j, rfl, q⟩ := h
  obtain ⟨u, u', rfl, r1, r2⟩ := vals2 r
  obtain ⟨t, rfl⟩ := (show ∃ t, u = Value.int i t from r1)
  obtain ⟨t', rfl⟩ := (show ∃ t, u' = Value.int j t from r2)
  refine call_range_2 ⟨.ref s.heap.objs.size, _, I.laid (a := s.heap.objs.size) (o := .rng i j) (fun b ob q => Heap.get?_push_of_some _ q) (Nat.le_refl _) ⟨_, _, _, Heap.get?_push_size _ rfl⟩, rfl, q _ (I.hok.fresh (Nat.le_refl _))⟩
theorem call_list_rng (hc : X.calm = true) : CallR X (.type "list") (fun xs H Q => ∃ p i j, xs = [.ref p] ∧ H p = some (.rng i j) ∧ (-(2 ^ 62) ≤ i ∧ i < 2 ^ 62 ∧ -(2 ^ 62) ≤ j ∧ j < 2 ^ 62) ∧ (j - i).toNat ≤ sizeLine ∧
    ∀ l, H l = none → Q (.ref l) (upd H l (.lst ((ups i (j - i).toNat).map V.int)))) := by
  intro pins s σ H xs us Q I r h
  obtain ⟨p, i, j, rfl, hp, ⟨b1, b2, b3, b4⟩, hz, q⟩ := h
  obtain ⟨u, rfl, rx⟩ := vals1 r
  cases (show u = Value.ref p from rx)
  obtain ⟨t1, t2, t3, ho⟩ := (show ObjOk X.prog X.w H s.heap p (.rng i j) from I.hok p _ hp)
  refine call_list_range (I.ok.hd hc) ho (small_one b1 b2 b3 b4) (n := (j - i).toNat) (by rw [rangeSize_one]; split <;> omega) (by rw [sizeLine_eq] at hz; exact hz) fun h' tk acc c' hk hS hacc => ?_
  refine ⟨.ref s.heap.objs.size, _, I.laid (a := s.heap.objs.size) (t' := tk) (o := .lst ((ups i (j - i).toNat).map V.int)) hk (Nat.le_refl _) ?_, rfl, q _ (I.hok.fresh (Nat.le_refl _))⟩
  refine ⟨by rw [List.length_map, ups_length]; exact hz, acc.toList, c', vals_items hacc, ?_⟩
  have e : acc.toList.toArray = acc := by simp
  rw [e]
  exact hS

/-! ### {} -/
end
end L2
end
section
/-! zip(a, b) of two tuples or two lists, walked with a pair as target. -/
namespace L2
open PySem PySem.Spec PyProof.Rows
set_option maxHeartbeats 4000000
set_option maxRecDepth 100000
set_option Elab.async false
set_option linter.unusedVariables false

/-- kinds: true a tuple, false a list -/
def ItAt (t : Bool) (i l : Addr) (k : Nat) (h : Heap) : Prop := match t with
  | true => h.IsTupleIter i l k
  | false => h.IsListIter i l k
def SqK (t : Bool) (K : PySem.W.Frag) (H : Hp) (l : Addr) (xs : List V) : Prop := match t with
  | true => SqT K H l xs
  | false => SqL K H l xs
theorem ItAt.at {t : Bool} {i l : Addr} {k : Nat} {h h' : Heap} (x : ItAt t i l k h) (e : ∀ o, h.get? i = some o → h'.get? i = some o) : ItAt t i l k h' := by
  cases t
  · exact Heap.IsListIter.at x e
  · exact Heap.IsTupleIter.at x e
theorem ItAt.obj {t : Bool} {i l : Addr} {k : Nat} {h : Heap} (x : ItAt t i l k h) : ∃ o f c, h.get? i = some o ∧ o.data = .fields f ∧ o.cls = .type c ∧ (c = "list_iterator" ∨ c = "tuple_iterator") := by
  cases t
  · obtain ⟨o, e, c, d⟩ := (show h.IsListIter i l k from x)
    exact ⟨o, _, _, e, d, c, .inl rfl⟩
  · obtain ⟨o, e, c, d⟩ := (show h.IsTupleIter i l k from x)
    exact ⟨o, _, _, e, d, c, .inr rfl⟩
section
variable {X : Cx} {pins : List (Addr × Obj)} {σ : St} {H : Hp} {s : Shared}
theorem Inv.sqk {t : Bool} {l : Addr} {xs : List V} (I : Inv X pins σ H s) (h : SqK t X.K H l xs) : ∃ its : List Value, Vals xs its ∧ (∃ o, s.heap.get? l = some o ∧ (o.cls = .type "list" ∨ o.cls = .type "tuple")) ∧
    ∀ (i : Addr), l ≠ i → ∃ pl : Nat → Heap → Prop, Nx X.prog X.w i l pl its.toArray ∧ (∀ k, ItAt t i l k s.heap → pl k s.heap) ∧ (∀ k h', pl k h' → ItAt t i l k h') := by
  cases t
  · obtain ⟨its, r, p, hz⟩ := I.list (show SqL X.K H l xs from h)
    obtain ⟨o, ho, hc, n, hd⟩ := id p.isList
    exact ⟨its, r, ⟨o, ho, .inl hc⟩, fun i ne => ⟨_, nx_list its.toArray ne, fun k z => ⟨z, p.isList⟩, fun k h' z => z.1⟩⟩
  · obtain ⟨its, r, p, hz⟩ := I.tuple (show SqT X.K H l xs from h)
    obtain ⟨o, ho, hc, n, hd⟩ := id p
    exact ⟨its, r, ⟨o, ho, .inr hc⟩, fun i ne => ⟨_, nx_tup its.toArray ne, fun k z => ⟨z, p⟩, fun k h' z => z.1⟩⟩
theorem Inv.sqk_inj {t : Bool} {l : Addr} {xs ys : List V} (I : Inv X pins σ H s) (h : SqK t X.K H l xs) (h' : SqK t X.K H l ys) : xs = ys := by
  cases t
  · exact I.list_inj h h'
  · exact I.tuple_inj h h'
end

/-- the pairs of two sequences -/
def Itz (t : Bool) (K : PySem.W.Frag) (l m : Addr) : It where
  go := fun i H => ∃ xs ys x y, SqK t K H l xs ∧ SqK t K H m ys ∧ xs[i]? = some x ∧ ys[i]? = some y
  yld := fun i H v H' => ∃ p x y, v = .ref p ∧ H p = none ∧ H' = upd H p (.tup [x, y]) ∧ (∀ xs, SqK t K H l xs → xs[i]? = some x) ∧ ∀ ys, SqK t K H m ys → ys[i]? = some y
  stop := fun i H => ∃ xs ys, SqK t K H l xs ∧ SqK t K H m ys ∧ (xs[i]? = none ∨ ys[i]? = none)

theorem turn_zip {P : Program} {w : World} {K : PySem.W.Frag} {es : List Expr} {k0 : Nat} {pos : Pos} {t : Bool} {z TI TO i j l m : Addr} (a1 : TI ≠ z) (a2 : TO ≠ z) (a3 : i ≠ z) (a4 : j ≠ z) (a5 : TI ≠ TO) (a6 : TI ≠ i) (a7 : TI ≠ j) (a8 : TO ≠ i) (a9 : TO ≠ j) (b1 : i ≠ j)
    (c1 : l ∉ [z, TI, TO, i, j]) (c2 : m ∉ [z, TI, TO, i, j]) :
    Turn P w K (.Tuple es k0 pos) (Itz t K l m) [z, TI, TO, i, j] z (fun k h => IsZip h z TI TO .none ∧ IsPair h TI (.ref i) (.ref j) ∧ (∃ a b, IsPair h TO a b) ∧ ItAt t i l k h ∧ ItAt t j m k h) where
  mem := by simp
  obj := fun k h ⟨hz, h1, ⟨a, b, h2⟩, h3, h4⟩ c hc => by
    obtain ⟨o1, f1, _, e1, d1, _⟩ := h3.obj
    obtain ⟨o2, f2, _, e2, d2, _⟩ := h4.obj
    simp only [List.mem_cons, List.not_mem_nil, or_false] at hc
    rcases hc with rfl | rfl | rfl | rfl | rfl
    · exact ⟨_, hz, fun v q => by cases q⟩
    · exact ⟨_, h1, fun v q => by cases q⟩
    · exact ⟨_, h2, fun v q => by cases q⟩
    · exact ⟨_, e1, fun v q => by rw [d1] at q; cases q⟩
    · exact ⟨_, e2, fun v q => by rw [d2] at q; cases q⟩
  keep := fun k h h' ⟨hz, h1, ⟨a, b, h2⟩, h3, h4⟩ kp => ⟨kp z (by simp) _ hz, kp TI (by simp) _ h1, ⟨a, b, kp TO (by simp) _ h2⟩, h3.at fun o e => kp i (by simp) o e, h4.at fun o e => kp j (by simp) o e⟩
  item := by
    intro X hP hw hK hc k pins s σ H E I hf st hg
    subst hP hw hK
    obtain ⟨xs, ys, x, y, hl, hm, hx, hy⟩ := hg
    obtain ⟨hz, h1, ⟨a, b, h2⟩, h3, h4⟩ := st
    have cl := c1
    have cm := c2
    simp only [List.mem_cons, List.not_mem_nil, or_false, not_or] at c1 c2
    obtain ⟨its, r1, _, n1⟩ := I.sqk hl
    obtain ⟨jts, r2, _, n2⟩ := I.sqk hm
    obtain ⟨p1, N1, u1, v1⟩ := n1 i c1.2.2.2.1
    obtain ⟨p2, N2, u2, v2⟩ := n2 j c2.2.2.2.2
    obtain ⟨u, hu, ru⟩ := r1.get hx
    obtain ⟨u', hu', ru'⟩ := r2.get hy
    have D : [z, TI, TO, i, j].Nodup := by simp [a1, a2, a3, a4, a5, a6, a7, a8, a9, b1, Ne.symm a1, Ne.symm a2, Ne.symm a3, Ne.symm a4]
    refine zip_item D cl cm N1 N2 hz h1 h2 (u1 k h3) (u2 k h4) (x := u) (y := u') (by simpa using hu) (by simpa using hu') fun h' z1 z2 z3 z4 z5 z6 kp => ?_
    refine ⟨_, rfl, wpAny_letOwnedTupleGo_zip z1 fun h'' y1 sb => ?_⟩
    have fz : H s.heap.objs.size = none := I.hok.fresh (Nat.le_refl _)
    have zlt : z < s.heap.objs.size := Heap.lt_size hz
    have mine : ∀ c ∈ [z, TI, TO, i, j], c ≠ s.heap.objs.size := fun c hc' => by
      obtain ⟨o1, f1, _, e1, d1, _⟩ := h3.obj
      obtain ⟨o2, f2, _, e2, d2, _⟩ := h4.obj
      simp only [List.mem_cons, List.not_mem_nil, or_false] at hc'
      rcases hc' with rfl | rfl | rfl | rfl | rfl
      · exact Nat.ne_of_lt (Heap.lt_size hz)
      · exact Nat.ne_of_lt (Heap.lt_size h1)
      · exact Nat.ne_of_lt (Heap.lt_size h2)
      · exact Nat.ne_of_lt (Heap.lt_size e1)
      · exact Nat.ne_of_lt (Heap.lt_size e2)
    have kp2 : ∀ c o, c ∉ [z, TI, TO, i, j] → s.heap.get? c = some o → h''.get? c = some o := fun c o hc' e => by
      simp only [List.mem_cons, List.not_mem_nil, or_false, not_or] at hc'
      exact sb.extBut _ _ hc'.1 (kp c o hc'.1 hc'.2.2.1 hc'.2.2.2.1 hc'.2.2.2.2 e)
    have tp : h''.get? s.heap.objs.size = some { cls := .type "tuple", data := .seq #[u, u'] } := sb.extBut _ _ (mine z (by simp)).symm z5
    have notH : ∀ c ∈ [z, TI, TO, i, j], H c = none := fun c hc' => (hf c hc').1
    have I1 : Inv X pins σ (upd H s.heap.objs.size (.tup [x, y])) { s with heap := h'' } := by
      have un : Un X.fs [z, TI, TO, i, j] H (upd H s.heap.objs.size (.tup [x, y])) s.heap h'' :=
        ⟨fun c o e n nf hx => kp2 c o hx e, fun c o e n nf hx => ⟨o.slots, kp2 c o hx e⟩, fun c o e n hx => by rw [upd_ne (Nat.ne_of_lt (Heap.lt_size e))]; exact n,
          fun c o e hx => ⟨o, kp2 c o hx e⟩, fun c xs e => by rw [upd_ne (ne_of_none e fz)]; exact e, fun c o xs e => by rw [upd_ne (ne_of_none e fz)]; exact e, fun c ps e => ⟨#[], by rw [upd_ne (ne_of_none e fz), e]; simp⟩⟩
      have hok : HOk X.prog X.w (upd H s.heap.objs.size (.tup [x, y])) h'' := fun c o e => by
        by_cases hcs : c = s.heap.objs.size
        · subst hcs
          rw [upd_same] at e
          cases e
          exact ⟨by show 2 ≤ sizeLine; decide, [u, u'], .cons ru (.cons ru' .nil), ⟨_, tp, rfl, _, rfl⟩⟩
        · rw [upd_ne hcs] at e
          refine (I.hok c o e).stay (fun d w' hd q => kp2 d w' (fun zz => ?_) q) (fun d q => ?_) fun d w' q => ?_
          · have hn := notH d zz
            rcases hd with rfl | hd
            · rw [hn] at e; cases e
            · rw [hn] at hd; cases hd
          · rw [upd_ne (ne_of_none q fz)]; exact q
          · rw [upd_ne (ne_of_none q fz)]; exact q
      have hch : ∀ b ∈ [z, TI, TO, i, j], (b ∈ X.ex ∨ X.s₀.heap.objs.size ≤ b) ∧ b ≠ X.env.locals ∧ (∀ x c, X.env.cells.lookup x = some c → c ≠ b) ∧ ∀ p ∈ X.pn ++ pins, p.1 ≠ b := fun b hb => ⟨(hf b hb).2.2.2.1, (hf b hb).2.1, (hf b hb).2.2.2.2.1, (hf b hb).2.2.2.2.2⟩
      refine I.step (g' := s.gens) (d' := s.drawn) (t' := s.toks) (ch := [z, TI, TO, i, j]) hch (fun c o _ _ hc' e _ => kp2 c o hc' e) (fun c o _ _ hc' e _ => ⟨o.slots, kp2 c o hc' e⟩) (fun c o hc' e n => un.free c o e n hc') (fun c o hc' e => un.there c o e hc') un.tups un.frzs un.tbls (fun m' hm' => ?_) hok I.bare
      obtain ⟨o, es', ep, ho, r⟩ := hm'
      exact ⟨o, es', ep, kp2 _ o (fun zz => (hf _ zz).2.1 rfl) ho, r⟩
    refine ⟨.ref s.heap.objs.size, _, I1, rfl, ⟨s.heap.objs.size, x, y, rfl, fz, rfl, fun xs' q => by rw [I.sqk_inj q hl]; exact hx, fun ys' q => by rw [I.sqk_inj q hm]; exact hy⟩, ?_, fun c hc' => ?_⟩
    · have up : ∀ c o, c ≠ z → h'.get? c = some o → h''.get? c = some o := fun c o hc' e => sb.extBut _ _ hc' e
      exact ⟨y1, up _ _ a1 (kp _ _ a1 a5 a6 a7 h1), ⟨_, _, up _ _ a2 z2⟩, (v1 _ _ z3).at fun o e => up _ o a3 e, (v2 _ _ z4).at fun o e => up _ o a4 e⟩
    · rw [upd_ne (mine c hc')]
      exact notH c hc'
  done := by
    intro X hP hw hK hc k pins s σ H E I hf st hg
    subst hP hw hK
    obtain ⟨xs, ys, hl, hm, hend⟩ := hg
    obtain ⟨hz, h1, ⟨a, b, h2⟩, h3, h4⟩ := st
    have cl := c1
    have cm := c2
    simp only [List.mem_cons, List.not_mem_nil, or_false, not_or] at c1 c2
    obtain ⟨its, r1, _, n1⟩ := I.sqk hl
    obtain ⟨jts, r2, _, n2⟩ := I.sqk hm
    obtain ⟨p1, N1, u1, v1⟩ := n1 i c1.2.2.2.1
    obtain ⟨p2, N2, u2, v2⟩ := n2 j c2.2.2.2.2
    have D : [z, TI, TO, i, j].Nodup := by simp [a1, a2, a3, a4, a5, a6, a7, a8, a9, b1, Ne.symm a1, Ne.symm a2, Ne.symm a3, Ne.symm a4]
    refine zip_done (I.ok.hd hc) D cl cm N1 N2 hz h1 h2 (u1 k h3) (u2 k h4) (hend.elim (fun q => .inl (by simpa using r1.none_of q)) fun q => .inr (by simpa using r2.none_of q)) fun h' kp => ⟨rfl, ?_⟩
    have kp2 : ∀ c o, c ∉ [z, TI, TO, i, j] → s.heap.get? c = some o → h'.get? c = some o := fun c o hc' e => by
      simp only [List.mem_cons, List.not_mem_nil, or_false, not_or] at hc'
      exact kp c o hc'.1 hc'.2.2.1 hc'.2.2.2.1 hc'.2.2.2.2 e
    have hch : ∀ b ∈ [z, TI, TO, i, j], (b ∈ X.ex ∨ X.s₀.heap.objs.size ≤ b) ∧ b ≠ X.env.locals ∧ (∀ x c, X.env.cells.lookup x = some c → c ≠ b) ∧ ∀ p ∈ X.pn ++ pins, p.1 ≠ b := fun b hb => ⟨(hf b hb).2.2.2.1, (hf b hb).2.1, (hf b hb).2.2.2.2.1, (hf b hb).2.2.2.2.2⟩
    refine I.step (g' := s.gens) (d' := s.drawn) (t' := s.toks) (ch := [z, TI, TO, i, j]) hch (fun c o _ _ hc' e _ => kp2 c o hc' e) (fun c o _ _ hc' e _ => ⟨o.slots, kp2 c o hc' e⟩) (fun _ _ _ _ n => n) (fun c o hc' e => ⟨o, kp2 c o hc' e⟩) (fun _ _ e => e) (fun _ _ _ e => e) (fun b ps e => ⟨#[], by rw [e]; simp⟩) (fun m' hm' => ?_) (fun c o e => ?_) I.bare
    · obtain ⟨o, es', ep, ho, r⟩ := hm'
      exact ⟨o, es', ep, kp2 _ o (fun zz => (hf _ zz).2.1 rfl) ho, r⟩
    · refine (I.hok c o e).stay (fun d w' hd q => kp2 d w' (fun zz => ?_) q) (fun _ q => q) fun _ _ q => q
      have hn := (hf d zz).1
      rcases hd with rfl | hd
      · rw [hn] at e; cases e
      · rw [hn] at hd; cases hd
  self := fun A k s Q E st h => wpAny_pyIter_zip st.1 h
end L2
end
section
/-! zip(a, b) made. -/
namespace L2
open PySem PySem.Spec PyProof.Rows
set_option maxHeartbeats 4000000
set_option maxRecDepth 100000
set_option Elab.async false
set_option linter.unusedVariables false
/-- zip.__new__ of two tuples, walked: two iterators, two pairs, the zip -/
theorem tz_new (l m : Addr) (xs ys : Array Value) : Meets (Builtin.«zip.__new__» ⟨[.type "zip", .ref l, .ref m], []⟩) (fun _ R s => s.heap.IsTuple l xs ∧ s.heap.IsTuple m ys ∧
      ∀ h' : Heap, IsZip h' (s.heap.objs.size + 4) (s.heap.objs.size + 2) (s.heap.objs.size + 3) .none → IsPair h' (s.heap.objs.size + 2) (.ref s.heap.objs.size) (.ref (s.heap.objs.size + 1)) →
        IsPair h' (s.heap.objs.size + 3) .none .none → h'.IsTupleIter s.heap.objs.size l 0 → h'.IsTupleIter (s.heap.objs.size + 1) m 0 → (∀ c o, s.heap.get? c = some o → h'.get? c = some o) →
        R (.ok (.ret (.ref (s.heap.objs.size + 4)))) { s with heap := h' }) :=
  .of_wp fun prog w A R s h => by
    obtain ⟨hp, g, d, tk, os⟩ := s
    obtain ⟨h1, h2, h⟩ := h
    have hsub := sub_zip
    wp_walk using wpAny_pyIter_tuple h1, wpAny_pyIter_tuple (Heap.IsTuple.push h2 _)
    simp only [Heap.size_push]
    refine ⟨_, rfl, h _ (Heap.get?_push_at (by simp only [Heap.size_push]) rfl) ?_ ?_ ?_ ?_ fun c o x => ?_⟩
    · exact Heap.get?_push_of_some _ (Heap.get?_push_of_some _ (Heap.get?_push_at (by simp only [Heap.size_push]) rfl))
    · exact Heap.get?_push_of_some _ (Heap.get?_push_at (by simp only [Heap.size_push]) rfl)
    · exact ⟨_, Heap.get?_push_of_some _ (Heap.get?_push_of_some _ (Heap.get?_push_of_some _ (Heap.get?_push_of_some _ (Heap.get?_push_size _ rfl)))), rfl, rfl⟩
    · exact ⟨_, Heap.get?_push_of_some _ (Heap.get?_push_of_some _ (Heap.get?_push_of_some _ (Heap.get?_push_at (by simp only [Heap.size_push]) rfl))), rfl, rfl⟩
    repeat (first | exact x | refine Heap.get?_push_of_some _ ?_)
section
variable {prog : Program} {w : World} {A : Around} {E : Value → Shared → Prop} {s : Shared}
theorem zip_tups {l m : Addr} {xs ys : Array Value} {Q : Value → Shared → Prop} (h1 : s.heap.IsTuple l xs) (h2 : s.heap.IsTuple m ys)
    (h : ∀ h', IsZip h' (s.heap.objs.size + 4) (s.heap.objs.size + 2) (s.heap.objs.size + 3) .none → IsPair h' (s.heap.objs.size + 2) (.ref s.heap.objs.size) (.ref (s.heap.objs.size + 1)) →
      IsPair h' (s.heap.objs.size + 3) .none .none → h'.IsTupleIter s.heap.objs.size l 0 → h'.IsTupleIter (s.heap.objs.size + 1) m 0 →
      (∀ c o, s.heap.get? c = some o → h'.get? c = some o) → Q (.ref (s.heap.objs.size + 4)) { s with heap := h' }) :
    wpAny (model prog w) A (call (.type "zip") [.ref l, .ref m]) Q E s :=
  callType_new F.called_zip (by decide) (F.typeCall_zip_2 _ _) (F.newCall_zip_2 _ _) (fun obj => F.args_object_init_3 obj _ _) F.entry_zip_new (tz_new l m xs ys)
    ⟨h1, h2, fun h' z p1 p2 i1 i2 kp => ⟨⟨_, z, rfl⟩, h h' z p1 p2 i1 i2 kp⟩⟩
end
theorem apart_nat (n : Nat) {a b : Nat} (h : a ≠ b) : n + a ≠ n + b := fun z => h (Nat.add_left_cancel z)
theorem not_fresh5 {n c : Nat} (h : c < n) (z : c = n + 4 ∨ c = n + 2 ∨ c = n + 3 ∨ c = n ∨ c = n + 1) : False := by omega
theorem fresh5 {n c : Nat} (z : c = n + 4 ∨ c = n + 2 ∨ c = n + 3 ∨ c = n ∨ c = n + 1) : n ≤ c := by omega
section
variable {X : Cx}
def iZip (t : Bool) (K : PySem.W.Frag) (ta : TA) : TI := fun σ H R => ta σ H fun vs H1 => ∃ l m xs ys, vs = [.ref l, .ref m] ∧ SqK t K H1 l xs ∧ SqK t K H1 m ys ∧ R (Itz t K l m) H1
theorem pi_zip (t : Bool) {es : List Expr} {k0 : Nat} {tp : Pos} {a b : Expr} {ta : TA} {p pos : Pos} (hg : Gl X "zip") (hm : X.mg "zip" = none) (ha : PA X [a, b] ta) (hs : starEach [a, b] X.env = [(false, eval a X.env), (false, eval b X.env)] := by rfl) (hs2 : starEach [b] X.env = [(false, eval b X.env)] := by rfl) :
    PI X (.Tuple es k0 tp) (.Call (.Name "zip" p) [a, b] [] pos) (iZip t X.K ta) := by
  intro pins s σ H R I h
  refine Call_ (ld_blt I hg hm boot_zip (PyProof.Rows.callWith_type1 (thn (ha pos pins s σ H _ I h) fun us s1 ⟨vs, H1, I1, r1, q1⟩ => ?_) (by rw [hs, hs2]) (by rw [hs2]; rfl)))
  obtain ⟨l, m, xs, ys, e, hl, hm', q⟩ := q1
  subst e
  obtain ⟨u, u', rfl, ru, ru'⟩ := vals2 r1
  cases (show u = Value.ref l from ru)
  cases (show u' = Value.ref m from ru')
  obtain ⟨its, _, ⟨ol, eol, _⟩, _⟩ := I1.sqk hl
  obtain ⟨jts, _, ⟨om, eom, _⟩, _⟩ := I1.sqk hm'
  have ll : l < s1.heap.objs.size := Heap.lt_size eol
  have lm : m < s1.heap.objs.size := Heap.lt_size eom
  have fin : ∀ h' : Heap, IsZip h' (s1.heap.objs.size + 4) (s1.heap.objs.size + 2) (s1.heap.objs.size + 3) .none → IsPair h' (s1.heap.objs.size + 2) (.ref s1.heap.objs.size) (.ref (s1.heap.objs.size + 1)) →
      IsPair h' (s1.heap.objs.size + 3) .none .none → ItAt t s1.heap.objs.size l 0 h' → ItAt t (s1.heap.objs.size + 1) m 0 h' → (∀ c o, s1.heap.get? c = some o → h'.get? c = some o) →
      wpAny (model X.prog X.w) X.A (pyIter (.ref (s1.heap.objs.size + 4))) (PIE X pins σ (.Tuple es k0 tp) R) X.xe { s1 with heap := h' } := fun h' z1 z2 z3 z4 z5 kp => by
    have I2 : Inv X pins σ H1 { s1 with heap := h' } := I1.kept (t' := s1.toks) kp
    refine wpAny_pyIter_zip z1 ⟨s1.heap.objs.size + 4, [s1.heap.objs.size + 4, s1.heap.objs.size + 2, s1.heap.objs.size + 3, s1.heap.objs.size, s1.heap.objs.size + 1], _, _, H1, rfl, I2,
      turn_zip (t := t) (l := l) (m := m) (apart_nat _ (a := 2) (b := 4) (by decide)) (apart_nat _ (a := 3) (b := 4) (by decide)) (apart_nat _ (a := 0) (b := 4) (by decide)) (apart_nat _ (a := 1) (b := 4) (by decide)) (apart_nat _ (a := 2) (b := 3) (by decide)) (apart_nat _ (a := 2) (b := 0) (by decide)) (apart_nat _ (a := 2) (b := 1) (by decide)) (apart_nat _ (a := 3) (b := 0) (by decide)) (apart_nat _ (a := 3) (b := 1) (by decide)) (apart_nat _ (a := 0) (b := 1) (by decide)) (fun z => ?_) (fun z => ?_), ⟨z1, z2, ⟨_, _, z3⟩, z4, z5⟩, fun c hc => ?_, q⟩
    · simp only [List.mem_cons, List.not_mem_nil, or_false] at z; exact not_fresh5 ll z
    · simp only [List.mem_cons, List.not_mem_nil, or_false] at z; exact not_fresh5 lm z
    · have hcs : s1.heap.objs.size ≤ c := by simp only [List.mem_cons, List.not_mem_nil, or_false] at hc; exact fresh5 hc
      exact I1.fpOk hcs (I1.hok.fresh hcs)
  cases t
  · obtain ⟨its, _, pl, _⟩ := I1.list (show SqL X.K H1 l xs from hl)
    obtain ⟨jts, _, pm, _⟩ := I1.list (show SqL X.K H1 m ys from hm')
    exact call_zip_2 pl.isList pm.isList fun h' z1 z2 z3 z4 z5 _ kp => fin h' z1 z2 z3 z4 z5 kp
  · obtain ⟨its, _, pl, _⟩ := I1.tuple (show SqT X.K H1 l xs from hl)
    obtain ⟨jts, _, pm, _⟩ := I1.tuple (show SqT X.K H1 m ys from hm')
    exact zip_tups pl pm fun h' z1 z2 z3 z4 z5 kp => fin h' z1 z2 z3 z4 z5 kp
end
end L2
end
section
/-! SHORT WORDS for a whole text: own defs by name, built-ins by name. -/
namespace L2
open PySem PySem.Spec PyProof.Rows
set_option maxHeartbeats 4000000
set_option Elab.async false
set_option linter.unusedVariables false
/-- the def x keeps sp with k calls left -/
def Has (P : Program) (w : World) (K : PySem.W.Frag) (mg : Str → Option Value) (base : Heap) (k : Nat) (x : Str) (ps : List Str) (sp : Sp) : Prop :=
  ∃ (f : Addr) (fd : FuncData), FnOk P w K mg base CX0 k f fd ps sp ∧ mg x = some (.ref f) ∧ PySem.W.keepIn K (.ref f) = true ∧ Binds K fd ps []
section
variable {X : Cx} {k k' : Nat} {x : Str} {ps : List Str} {sp : Sp} {e : Expr} {es : List Expr} {t : TA} {p pos : Pos}
theorem pe_def (h : Has X.prog X.w X.K X.mg X.base k x ps sp) (hr : Room k' X.A) (ha : PA X (e :: es) t) (hg : Gl X x := by rfl) (hk : k ≤ k' := by decide) (hdb : (x == ("__debug__" : Str)) = false := by decide)
    (he : starEach (e :: es) X.env = (false, eval e X.env) :: starEach es X.env := by rfl) (hpl : (backTo pos (starEach es X.env)).any (·.1) = false := by rfl) : PE X (.Call (.Name x p) (e :: es) [] pos) (tCall sp [] E0 t) := by
  obtain ⟨f, fd, F, m, kp, b⟩ := h
  exact pe_call F (hr.mono hk) hg m kp b .nil pass0 ha hdb he hpl
/-- a constant of the module -/
theorem pe_const {v : V} (h : ∃ u, X.mg x = some u ∧ RelV v u) (hg : Gl X x := by rfl) (hd : (x == ("__debug__" : Str)) = false := by decide) : PE X (.Name x pos) (tC v) := by
  obtain ⟨u, m, r⟩ := h
  exact pe_glob hg m r hd
/-- a built-in type as a value -/
theorem pe_ty {T : String} (hm : X.mg x = none) (hv : bootBuiltins x = some (.type T)) (hg : Gl X x := by rfl) (hn : x ≠ "__name__" := by decide) (hd : (x == ("__debug__" : Str)) = false := by decide) : PE X (.Name x pos) (tC (.ty T)) := pe_bltn hg hm hv rfl hn hd
end
/-- the built-ins that a text uses are no names of its own -/
structure Nb (mg : Str → Option Value) : Prop where
  len : mg "len" = none
  isi : mg "isinstance" = none
  bool : mg "bool" = none
  int : mg "int" = none
  tuple : mg "tuple" = none
  list : mg "list" = none
  range : mg "range" = none
  zip : mg "zip" = none
  all : mg "all" = none
  max : mg "max" = none
  min : mg "min" = none
end L2
end
section
/-! A comprehension without tests whose elements only add to the heap. -/
namespace L2
open PySem PySem.Spec PyProof.Rows
set_option maxHeartbeats 4000000
set_option Elab.async false
set_option linter.unusedVariables false
theorem Same.upd_free {H1 H5 : Hp} {D : Addr} (s : Same H1 H5) (hD : H1 D = none) (o : HO) : Same H1 (upd H5 D o) := fun b u q => by rw [upd_ne (ne_of_none q hD)]; exact s b u q
theorem comp_go {J : It} {g : TG} {te : TE} {Q : VK} {D : Addr} {H1 : Hp} {σ0 : St} (n : Nat) (hn : n ≤ sizeLine) (f : Nat → V) (Sg : St → Prop) (itm : Nat → Hp → V → Prop) (hD : H1 D = none) (s0 : Sg σ0)
    (items : ∀ i H, Same H1 H → (i < n → J.go i H ∧ ∀ x H2, J.yld i H x H2 → Same H H2 ∧ itm i H2 x) ∧ (n ≤ i → J.stop i H))
    (step : ∀ i x σ' H, i < n → Same H1 H → itm i H x → Sg σ' → ∀ R : St → V → Hp → Prop, (∀ σ3 y H5, Sg σ3 → Same H H5 → y = f i → R σ3 y H5) → g x σ' H fun σ3 H3 => te σ3 H3 (R σ3))
    (fin : ∀ H', Same H1 H' → H' D = some (.lst ((List.range n).map f)) → Q (.ref D) H') :
    cmpW J g tYes te Q D σ0 H1 := by
  refine ⟨fun i m σ H => m = n - i ∧ i ≤ n ∧ Sg σ ∧ Same H1 H ∧ H D = some (.lst ((List.range i).map f)), ⟨n, by omega, Nat.zero_le _, s0, (Same.refl H1).upd_free hD _, upd_same⟩, ?_⟩
  rintro i m σ H ⟨rfl, hi, hs, sm, hd⟩
  by_cases hlt : i < n
  · obtain ⟨go, yl⟩ := (items i H sm).1 hlt
    refine .inr ⟨go, fun x H2 y => ?_⟩
    obtain ⟨s2, im⟩ := yl x H2 y
    have e : (fun (σ3 : St) (H3 : Hp) => tYes σ3 H3 fun ok H4 =>
        if ok = true then te σ3 H4 fun y H5 => ∃ ys, H5 D = some (.lst ys) ∧ ys.length < sizeLine ∧ ∃ m', m' < n - i ∧ (m' = n - (i + 1) ∧ i + 1 ≤ n ∧ Sg σ3 ∧ Same H1 (upd H5 D (.lst (ys ++ [y]))) ∧ upd H5 D (.lst (ys ++ [y])) D = some (.lst ((List.range (i + 1)).map f)))
        else ∃ m', m' < n - i ∧ (m' = n - (i + 1) ∧ i + 1 ≤ n ∧ Sg σ3 ∧ Same H1 H4 ∧ H4 D = some (.lst ((List.range (i + 1)).map f)))) =
        fun σ3 H3 => te σ3 H3 fun y H5 => ∃ ys, H5 D = some (.lst ys) ∧ ys.length < sizeLine ∧ ∃ m', m' < n - i ∧ (m' = n - (i + 1) ∧ i + 1 ≤ n ∧ Sg σ3 ∧ Same H1 (upd H5 D (.lst (ys ++ [y]))) ∧ upd H5 D (.lst (ys ++ [y])) D = some (.lst ((List.range (i + 1)).map f))) := by
      funext σ3 H3
      unfold tYes
      dsimp only
      rw [if_pos rfl]
    rw [e]
    refine step i x σ H2 hlt (sm.trans s2) im hs _ fun σ3 y H5 g3 s5 ey => ?_
    refine ⟨_, s5 _ _ (s2 _ _ hd), by rw [List.length_map, List.length_range]; omega, n - (i + 1), by omega, rfl, by omega, g3, (sm.trans (s2.trans s5)).upd_free hD _, ?_⟩
    rw [upd_same, ey, List.range_succ, List.map_append]
    rfl
  · have e : i = n := by omega
    subst e
    exact .inl ⟨(items i H sm).2 (Nat.le_refl _), fin H sm hd⟩
/-- over a tracked tuple -/
theorem items_tup {K : PySem.W.Frag} {a : Addr} {xs : List V} {H1 : Hp} (h : H1 a = some (.tup xs)) (i : Nat) (H : Hp) (s : Same H1 H) :
    (i < xs.length → (Itt K a).go i H ∧ ∀ x H2, (Itt K a).yld i H x H2 → Same H H2 ∧ xs[i]? = some x) ∧ (xs.length ≤ i → (Itt K a).stop i H) := by
  have q : SqT K H a xs := SqT.of (s _ _ h)
  refine ⟨fun hi => ⟨⟨xs, xs[i], q, List.getElem?_eq_getElem hi⟩, fun x H2 ⟨e, y⟩ => ?_⟩, fun hi => ⟨xs, q, hi⟩⟩
  subst e
  exact ⟨Same.refl _, y xs q⟩
theorem items_lst {K : PySem.W.Frag} {a : Addr} {xs : List V} {H1 : Hp} (h : H1 a = some (.lst xs)) (i : Nat) (H : Hp) (s : Same H1 H) :
    (i < xs.length → (Itl K a).go i H ∧ ∀ x H2, (Itl K a).yld i H x H2 → Same H H2 ∧ xs[i]? = some x) ∧ (xs.length ≤ i → (Itl K a).stop i H) := by
  have q : SqL K H a xs := SqL.of (s _ _ h)
  refine ⟨fun hi => ⟨⟨xs, xs[i], q, List.getElem?_eq_getElem hi⟩, fun x H2 ⟨e, y⟩ => ?_⟩, fun hi => ⟨xs, q, hi⟩⟩
  subst e
  exact ⟨Same.refl _, y xs q⟩
/-- over two tracked tuples, side by side -/
theorem items_zip {K : PySem.W.Frag} {a b : Addr} {xs ys : List V} {H1 : Hp} (h : H1 a = some (.tup xs)) (h' : H1 b = some (.tup ys)) (i : Nat) (H : Hp) (s : Same H1 H) :
    (i < min xs.length ys.length → (Itz true K a b).go i H ∧ ∀ v H2, (Itz true K a b).yld i H v H2 → Same H H2 ∧ ∃ p x y, v = .ref p ∧ H2 p = some (.tup [x, y]) ∧ xs[i]? = some x ∧ ys[i]? = some y) ∧ (min xs.length ys.length ≤ i → (Itz true K a b).stop i H) := by
  have q : SqK true K H a xs := SqT.of (s _ _ h)
  have q' : SqK true K H b ys := SqT.of (s _ _ h')
  refine ⟨fun hi => ⟨⟨xs, ys, xs[i]'(by omega), ys[i]'(by omega), q, q', List.getElem?_eq_getElem (by omega), List.getElem?_eq_getElem (by omega)⟩, fun v H2 ⟨p, x, y, e1, e2, e3, e4, e5⟩ => ?_⟩, fun hi => ⟨xs, ys, q, q', ?_⟩⟩
  · subst e3
    exact ⟨same_new e2 _, p, x, y, e1, upd_same, e4 xs q, e5 ys q'⟩
  · by_cases hx : xs.length ≤ i
    · exact .inl (List.getElem?_eq_none hx)
    · exact .inr (List.getElem?_eq_none (by omega))
end L2
end
section
/-! Comprehensions with a name, with a pair of names as target. -/
namespace L2
open PySem PySem.Spec PyProof.Rows
set_option maxHeartbeats 4000000
set_option Elab.async false
set_option linter.unusedVariables false
section
variable {X : Cx} {elt iter : Expr} {ifs : List Expr} {scope : Scope} {pos : Pos} {N : List Str} {js : List Nat} {sc : Scope} {N0 : List Str} {wi : TI} {tt : TT} {te : TE} {x y : Str} {px py tp : Pos} {k : Nat}
theorem blk_loc {cl : List (Str × Addr)} {C : Addr} {s : Shared} {H : Hp} {fp : List Addr} (h : scope.names.lookup x = some .local) : (blk X N scope cl C s H fp).env.scope.names.lookup x = some .local := lookup_relabel_local h
theorem pe_comp1 (hc : X.calm = true) (hsc : X.env.scope = sc) (hN : X.N = N0) (B : Blk sc N0 (x :: N) 1 js scope) (hx : scope.names.lookup x = some .local) (hi : PI X (.Name x px) iter wi)
    (ht : ∀ cl C s H fp, PTs (blk X (x :: N) scope cl C s H fp) ifs tt) (he : ∀ cl C s H fp, PE (blk X (x :: N) scope cl C s H fp) elt te)
    (hs : ∀ x, foldedSetIterable iter X.env x = pure x := by intro _; rfl) : PE X (.ListComp elt [⟨.Name x px, iter, ifs, 0⟩] scope pos) (tComp 1 js wi (gName 0) tt te) :=
  pe_comp hc hsc hN B hi (fun cl C s H fp => pg_name (i := 0) B.nd rfl (.inl (blk_loc hx)) (.inr (blk_loc hx))) ht he hs
theorem pe_comp2 (hc : X.calm = true) (hsc : X.env.scope = sc) (hN : X.N = N0) (B : Blk sc N0 (x :: y :: N) 2 js scope) (hx : scope.names.lookup x = some .local) (hy : scope.names.lookup y = some .local) (hi : PI X (.Tuple [.Name x px, .Name y py] k tp) iter wi)
    (ht : ∀ cl C s H fp, PTs (blk X (x :: y :: N) scope cl C s H fp) ifs tt) (he : ∀ cl C s H fp, PE (blk X (x :: y :: N) scope cl C s H fp) elt te)
    (hs : ∀ x, foldedSetIterable iter X.env x = pure x := by intro _; rfl) : PE X (.ListComp elt [⟨.Tuple [.Name x px, .Name y py] k tp, iter, ifs, 0⟩] scope pos) (tComp 2 js wi (gTup X.K 2 (gCons (gName 0) (gCons (gName 1) gNil))) tt te) :=
  pe_comp hc hsc hN B hi (fun cl C s H fp => pg_tup (X := blk X (x :: y :: N) scope cl C s H fp) hc (pgs_cons (pg_name (i := 0) B.nd rfl (.inl (blk_loc hx)) (.inr (blk_loc hx))) (pgs_cons (pg_name (i := 1) B.nd rfl (.inl (blk_loc hy)) (.inr (blk_loc hy))) pgs_nil))) ht he hs
end
end L2
end
section
/-! LONG DISPLAYS: the judgement in a box that is not looked into while it is put together. -/
namespace L2
open PySem PySem.Spec PyProof.Rows
set_option maxHeartbeats 4000000
set_option Elab.async false
set_option linter.unusedVariables false
structure SA (X : Cx) (es : List Expr) (t : TA) : Prop where
  get : PA X es t
structure SE (X : Cx) (e : Expr) (t : TE) : Prop where
  get : PE X e t
section
variable {X : Cx} {e : Expr} {es : List Expr} {te : TE} {t : TA} {pos : Pos}
end
end L2
end
section
/-! reversed(t) of a tuple: what the tables say of the type `reversed`. -/
namespace L2
open PySem PySem.Spec PyProof.Rows
set_option maxHeartbeats 4000000
set_option maxRecDepth 100000
set_option Elab.async false
set_option linter.unusedVariables false
theorem lookup_by {T : String} {n : Str} {r : Option Value} (h : fastLookup T n = some r) : typeLookup (.type T) n = pure r := by rw [typeLookup_type, builtinLookup_eq_fast, h]
/-- a special method of a type that is found in the tables -/
theorem slot_by {T id owner n : String} {mro : List Value} (found : fastLookup T (Str.ofString n) = some (some (.builtin id))) (above : fastBuiltinMro T = some mro) (mine : mro.contains (.type owner) = true)
    (named : splitId id = some (owner, n) ∧ withoutEnding? id "#opaque" = none ∧ withoutEnding? id "#data" = none ∧ plainId id = true)
    (kind : (Manifest.find? owner).bind (·.attrs.lookup n) = some .slot ∨ (Manifest.find? owner).bind (·.attrs.lookup n) = some .method) : Slot T (Str.ofString n) id :=
  .of (lookup_by found) named.1 named.2.1 named.2.2.1 kind (by rw [isSubtype_type, above]; exact congrArg pure mine) named.2.2.2
theorem rv_init : Slot "reversed" (Str.ofString "__init__") "object.__init__" := slot_by (mro := [.type "reversed", .type "object"]) (owner := "object") (by kernel_rfl) (by kernel_rfl) (by kernel_rfl) (by decide +kernel) (.inl (by decide +kernel))
theorem rv_iter : Slot "reversed" (Str.ofString "__iter__") "reversed.__iter__" := slot_by (mro := [.type "reversed", .type "object"]) (owner := "reversed") (by kernel_rfl) (by kernel_rfl) (by kernel_rfl) (by decide +kernel) (.inl (by decide +kernel))
theorem rv_next : Slot "reversed" (Str.ofString "__next__") "reversed.__next__" := slot_by (mro := [.type "reversed", .type "object"]) (owner := "reversed") (by kernel_rfl) (by kernel_rfl) (by kernel_rfl) (by decide +kernel) (.inl (by decide +kernel))
theorem rv_called : TypeCalled "reversed" "reversed.__new__" "object.__init__" :=
  { (by constructor <;> first | exact ⟨_, _, F.mro_reversed⟩ | exact F.made_reversed | exact rv_init | decide +kernel | (rw [isSubtype_type]; kernel_rfl) : TypeCalled "reversed" "reversed.__new__" "object.__init__") with }
theorem rv_entry_iter : entryFor table "reversed.__iter__" = some Builtin.«dict_keyiterator.__iter__» :=
  entryFor_alias (id' := "dict_keyiterator.__iter__") (by kernel_rfl) (by first | rfl | decide +kernel) (by decide +kernel) (by kernel_rfl)
theorem rv_entry_next : entryFor table "reversed.__next__" = some Builtin.«reversed.__next__» := entryFor_of_tree (by kernel_rfl)
/-- the tables' row of a method, by the backward spelling that the table asks -/
theorem args_by {id : String} {v : List Value} {n o : List Char} {rows : List (String × Manifest.Signature)} (cut : ((id.toList.map fun c => if c.isAlphanum || c == '_' || c == '.' then c else '_').reverse.span (· != '.')) = (n, '.' :: o))
    (own : Manifest.owners.lookup (String.ofList o.reverse) = some rows) (ok : ∀ sg, Manifest.signature? id = rows.lookup (String.ofList n.reverse) → sg = rows.lookup (String.ofList n.reverse) → argsOk id ⟨v, []⟩) : argsOk id ⟨v, []⟩ :=
  ok _ (signature?_of cut own) rfl
theorem rv_args_next (a : Value) : argsOk "reversed.__next__" ⟨[a], []⟩ :=
  args_by (n := "__txen__".toList) (o := "desrever".toList) (rows := Manifest.sig_reversed) (by kernel_rfl) (by kernel_rfl) fun _ e _ => by unfold argsOk; rw [e]; kernel_rfl
theorem rv_args_iter (a : Value) : argsOk "reversed.__iter__" ⟨[a], []⟩ :=
  args_by (n := "__reti__".toList) (o := "desrever".toList) (rows := Manifest.sig_reversed) (by kernel_rfl) (by kernel_rfl) fun _ e _ => by unfold argsOk; rw [e]; kernel_rfl
theorem rv_init_args (a b : Value) : argsOk "object.__init__" ⟨[a, b], []⟩ := F.args_object_init_2 a b
theorem tup_norev : typeLookup (.type "tuple") "__reversed__" = pure none := lookup_by (by kernel_rfl)
theorem tup_notdict : isSubtype (.type "tuple") (.type "dict") = pure false := by rw [isSubtype_type]; exact congrArg pure (show _ = false from by kernel_rfl)
abbrev IsRv (h : Heap) (z t : Addr) (i : Int) : Prop := h.get? z = some { cls := .type "reversed", dict := none, data := .fields #[.ref t, rawInt i], slots := #[] }
end L2
end
section
namespace L2
open PySem PySem.Spec PyProof.Rows
set_option maxHeartbeats 4000000
set_option maxRecDepth 100000
set_option Elab.async false
set_option linter.unusedVariables false
theorem rv_new (t : Addr) (xs : Array Value) (hz : (xs.size : Int) < 2 ^ 63) : Meets (Builtin.«reversed.__new__» ⟨[.type "reversed", .ref t], []⟩) (fun _ R s => IsTup s.heap t xs ∧
      R (.ok (.ret (.ref s.heap.objs.size))) { s with heap := s.heap.push { cls := .type "reversed", data := .fields #[.ref t, rawInt ((xs.size : Int) - 1)] }, toks := s.toks + 1 + 1 }) :=
  .of_wp fun prog w A R s h => by
    obtain ⟨hp, g, d, tk, os⟩ := s
    obtain ⟨h1, h⟩ := h
    have hT : Shared.TypeIs ⟨hp, g, d, tk, os⟩ (.ref t) "tuple" := h1.typeIs
    have hsub := F.sub_reversed_self
    have hnr := tup_norev
    have k1 : Heap.IsTuple (Shared.heap ⟨hp, g, d, tk, os⟩) t xs := h1
    have hnd := tup_notdict
    have hgi : typeLookup (.type "tuple") "__getitem__" = pure (some (.builtin "tuple.__getitem__")) := slot_tuple_getitem.lookup
    wp_walk using len_tuple h1 hz
    exact ⟨_, rfl, h⟩
section
variable {prog : Program} {w : World} {A : Around} {E : Value → Shared → Prop}
/-- one more item, from the end; the code walked -/
theorem rv_item {z t : Addr} {i : Nat} {xs : Array Value} {x : Value} {Q : Value → Shared → Prop} {s : Shared} (hz : IsRv s.heap z t (i : Int)) (ht : IsTup s.heap t xs) (hl : (xs.size : Int) < 2 ^ 63) (hx : xs[i]? = some x)
    (q : ∀ h' tk, IsRv h' z t ((i : Int) - 1) → Heap.SameBut z s.heap h' → Q x { s with heap := h', toks := tk }) :
    wpAny (model prog w) A (Builtin.«reversed.__next__» ⟨[.ref z], []⟩) (fun fin s' => ∃ v, fin = .done (.ret v) ∧ Q v s') E s := by
  obtain ⟨hp, g, d, tk, os⟩ := s
  have f1 : typeLookup (.type "tuple") "__getitem__" = pure (some (.builtin "tuple.__getitem__")) := slot_tuple_getitem.lookup
  have lt : i < xs.size := (Array.getElem?_eq_some_iff.mp hx).1
  have neg : ¬ (i : Int) < 0 := by omega
  obtain ⟨⟨c, dc, dt, sl⟩, ho, hc, n, hd⟩ := id ht
  simp only at hc hd
  subst hc hd
  simp only at ho
  have lo : -(2 ^ 63) ≤ (i : Int) := by omega
  have ht' : IsTup hp t xs := ht
  have hi : (i : Int) < 2 ^ 63 := by omega
  have at_ : seqIndex? (i : Int) xs.size = some i := by unfold seqIndex?; simp; omega
  have gi : ∀ {Q : Value → Shared → Prop} {E : Value → Shared → Prop}, Q x ⟨hp, g, d, tk + 1, os⟩ → wpAny (model prog w) A (getItem (#[Value.ref t, rawInt (i : Int)][0]'(Nat.zero_lt_succ 1)) (.int i tk)) Q E ⟨hp, g, d, tk + 1, os⟩ := fun r => by
    show wpAny (model prog w) A (getItem (.ref t) (.int i tk)) _ _ _
    refine getItem_tuple (items := xs) (j := i) (x := x) ?_ lo ?_ ?_ ?_ ?_
    · exact ht
    · exact hi
    · exact at_
    · exact hx
    · exact r
  wp_walk using gi
  exact ⟨_, rfl, q _ _ (Heap.get?_update_self _ hz rfl) (.update ..)⟩
/-- no more items -/
theorem rv_end {z t : Addr} {i : Int} {Q : PySem.Fin → Shared → Prop} {s : Shared} (hh : A.handled = none) (hz : IsRv s.heap z t i) (hi : i < 0)
    (hE : ∀ h' e, (∀ c o, c ≠ z → s.heap.get? c = some o → h'.get? c = some o) → (∃ o, h'.get? e = some o ∧ o.cls = .type "StopIteration") → E (.ref e) { s with heap := h' }) :
    wpAny (model prog w) A (Builtin.«reversed.__next__» ⟨[.ref z], []⟩) Q E s := by
  obtain ⟨hp, g, d, tk, os⟩ := s
  wp_walk
  exact wpAny_raiseNew_none hh (hE _ _ (fun c o n e => by repeat (first | exact e | refine Heap.get?_update_of_ne _ (Ne.symm n) ?_ | refine Heap.get?_push_of_some _ ?_)) ⟨_, Heap.get?_push_size _ rfl, rfl⟩)
theorem rv_pyNext {z t : Addr} {i : Nat} {xs : Array Value} {x : Value} {Q : Option Value → Shared → Prop} {s : Shared} (hz : IsRv s.heap z t (i : Int)) (ht : IsTup s.heap t xs) (hl : (xs.size : Int) < 2 ^ 63) (hx : xs[i]? = some x)
    (q : ∀ h' tk, IsRv h' z t ((i : Int) - 1) → Heap.SameBut z s.heap h' → Q (some x) { s with heap := h', toks := tk }) : wpAny (model prog w) A (pyNext (.ref z)) Q E s := by
  have hT : s.TypeIs (.ref z) "reversed" := ⟨_, hz, rfl⟩
  unfold pyNext
  exact wpAny_bind (wpAny_attempt (wpAny_callSpecial?_slot (name := Str.ofString "__next__") hT rv_next
    (wpAny_call_entry rv_next hT rv_entry_next (rv_item hz ht hl hx fun h' tk a1 a2 => wpAny_pure (q h' tk a1 a2)) (rv_args_next _))))
theorem rv_pyEnd {z t : Addr} {i : Int} {Q : Option Value → Shared → Prop} {s : Shared} (hh : A.handled = none) (hz : IsRv s.heap z t i) (hi : i < 0)
    (q : ∀ h', (∀ c o, c ≠ z → s.heap.get? c = some o → h'.get? c = some o) → Q none { s with heap := h' }) : wpAny (model prog w) A (pyNext (.ref z)) Q E s := by
  have hT : s.TypeIs (.ref z) "reversed" := ⟨_, hz, rfl⟩
  unfold pyNext
  refine wpAny_bind (wpAny_attempt (wpAny_callSpecial?_slot (name := Str.ofString "__next__") hT rv_next
    (wpAny_call_entry rv_next hT rv_entry_next (rv_end hh hz hi fun h' e hk he => ?_) (rv_args_next _))))
  obtain ⟨o, ho, hc⟩ := he
  refine wpAny_bind (wpAny_isInstance (T := "StopIteration") (b := true) ⟨o, ho, hc⟩ isSubtype_stop ?_)
  exact wpAny_pure (q _ hk)
theorem rv_pyIter {z t : Addr} {i : Int} {Q : Value → Shared → Prop} {s : Shared} (hz : IsRv s.heap z t i) (h : Q (.ref z) s) : wpAny (model prog w) A (pyIter (.ref z)) Q E s := by
  have hT : s.TypeIs (.ref z) "reversed" := ⟨_, hz, rfl⟩
  refine wpAny_pyIter_slot hT rv_iter (wpAny_call_entry rv_iter hT rv_entry_iter ?_ (rv_args_iter _))
  show wpAny _ _ (ret (.ref z)) _ _ s
  exact wpAny_pure ⟨_, rfl, "reversed", _, hT, rv_next.lookup, h⟩
theorem rv_call {t : Addr} {xs : Array Value} {Q : Value → Shared → Prop} {s : Shared} (ht : IsTup s.heap t xs) (hl : (xs.size : Int) < 2 ^ 63)
    (h : Q (.ref s.heap.objs.size) { s with heap := s.heap.push { cls := .type "reversed", data := .fields #[.ref t, rawInt ((xs.size : Int) - 1)] }, toks := s.toks + 1 + 1 }) :
    wpAny (model prog w) A (call (.type "reversed") [.ref t]) Q E s := by
  refine callType_new rv_called (by decide) (F.typeCall_reversed_1 _) (F.newCall_reversed_1 _) (fun obj => rv_init_args obj _) F.entry_reversed_new (rv_new t xs hl) ⟨ht, ?_⟩
  exact ⟨⟨_, Heap.get?_push_size _ rfl, rfl⟩, h⟩
end
/-- a tuple walked from its end -/
def Itv (K : PySem.W.Frag) (a : Addr) (n : Nat) : It where
  go := fun i H => ∃ xs x, SqT K H a xs ∧ xs.length = n ∧ xs.reverse[i]? = some x
  yld := fun i H x H' => H' = H ∧ ∀ xs, SqT K H a xs → xs.length = n → xs.reverse[i]? = some x
  stop := fun i H => n ≤ i
theorem turn_rev {P : Program} {w : World} {K : PySem.W.Frag} {tg : Expr} (a it : Addr) (n : Nat) : Turn P w K tg (Itv K a n) [it] it (fun i h => IsRv h it a ((n : Int) - 1 - (i : Int))) where
  mem := by simp
  obj := fun i h st b hb => by
    have e : b = it := by simpa using hb
    subst e
    exact ⟨_, st, fun v z => by
      have z' : Data.fields _ = Data.cell v := z
      cases z'⟩
  keep := fun i h h' st k => k it (by simp) _ st
  item := by
    intro X hP hw hK hc i pins s σ H E I hf st hg
    subst hP hw hK
    obtain ⟨xs, x, hq, hn, hx⟩ := hg
    obtain ⟨its, rv, p, hz⟩ := I.tuple hq
    have hlen := rv.length
    have hl63 := line63
    have hi : i < xs.length := by
      have := (List.getElem?_eq_some_iff.mp hx).1
      simpa using this
    rw [List.getElem?_reverse hi] at hx
    obtain ⟨u, hu, ru⟩ := rv.get hx
    obtain ⟨f0, f1, f2, f3, f4, f5⟩ := hf it (by simp)
    have ei : (n : Int) - 1 - (i : Int) = ((xs.length - 1 - i : Nat) : Int) := by omega
    have st2 : IsRv s.heap it a ((xs.length - 1 - i : Nat) : Int) := by rw [← ei]; exact st
    refine rv_pyNext st2 (show IsTup s.heap a its.toArray from p) (by simp only [List.size_toArray]; omega) (x := u) (by simpa using hu) fun h' tk st' sb => ?_
    have I1 : Inv X pins σ H { s with heap := h', toks := tk } := I.turned (t' := tk) (fun b o hb e => (sb.2 b hb).trans e) f0 f1 f3 f4 f5
    refine ⟨u, rfl, go_of (s := { s with heap := h', toks := tk }) (n := "reversed") st' rfl rfl (by decide) ⟨x, H, I1, ru, ⟨rfl, fun ys hy _ => by rw [I.tuple_inj hy hq, List.getElem?_reverse hi]; exact hx⟩, ?_, fun b hb => (hf b hb).1⟩⟩
    have e2 : (n : Int) - 1 - ((i + 1 : Nat) : Int) = ((xs.length - 1 - i : Nat) : Int) - 1 := by omega
    rw [e2]
    exact st'
  done := by
    intro X hP hw hK hc i pins s σ H E I hf st hg
    subst hP hw hK
    obtain ⟨f0, f1, f2, f3, f4, f5⟩ := hf it (by simp)
    exact rv_pyEnd (I.ok.hd hc) st (by have : n ≤ i := hg; omega) fun h' eb => ⟨rfl, I.turned (t' := s.toks) (fun b o hb e => eb b o hb e) f0 f1 f3 f4 f5⟩
  self := fun _ _ _ _ _ st h => rv_pyIter st h
section
variable {X : Cx} {tg : Expr}
def iRev (K : PySem.W.Frag) (ta : TA) : TI := fun σ H R => ta σ H fun vs H1 => ∃ a xs, vs = [.ref a] ∧ SqT K H1 a xs ∧ R (Itv K a xs.length) H1
theorem pi_rev {a : Expr} {ta : TA} {p pos : Pos} (hg : Gl X "reversed") (hm : X.mg "reversed" = none) (ha : PA X [a] ta) (hs : starEach [a] X.env = [(false, eval a X.env)] := by rfl) :
    PI X tg (.Call (.Name "reversed" p) [a] [] pos) (iRev X.K ta) := by
  intro pins s σ H R I h
  refine Call_ (ld_blt I hg hm boot_reversed (PyProof.Rows.callWith_type1 (thn (ha pos pins s σ H _ I h) fun us s1 ⟨vs, H1, I1, r1, q1⟩ => ?_) (by rw [hs]; rfl) (by rfl)))
  obtain ⟨t, xs, e, hl, q⟩ := q1
  subst e
  obtain ⟨u, rfl, ru⟩ := vals1 r1
  cases (show u = Value.ref t from ru)
  obtain ⟨its, rv, p, hz⟩ := I1.tuple hl
  have hlen := rv.length
  have hl63 := line63
  refine rv_call (show IsTup s1.heap t its.toArray from p) (by simp only [List.size_toArray]; omega) ?_
  have I2 : Inv X pins σ H1 { s1 with heap := s1.heap.push { cls := .type "reversed", data := .fields #[.ref t, rawInt ((its.toArray.size : Int) - 1)] }, toks := s1.toks + 1 + 1 } := I1.kept fun b o e => Heap.get?_push_of_some _ e
  have e0 : IsRv (s1.heap.push { cls := .type "reversed", data := .fields #[.ref t, rawInt ((its.toArray.size : Int) - 1)] }) s1.heap.objs.size t ((its.toArray.size : Int) - 1) := Heap.get?_push_size _ rfl
  refine rv_pyIter e0 ⟨s1.heap.objs.size, [s1.heap.objs.size], _, _, H1, rfl, I2, turn_rev t _ xs.length, ?_, fun b hb => ?_, q⟩
  · have e3 : ((xs.length : Nat) : Int) - 1 - ((0 : Nat) : Int) = (its.toArray.size : Int) - 1 := by simp only [List.size_toArray]; omega
    rw [e3]
    exact e0
  · have e : b = s1.heap.objs.size := by simpa using hb
    subst e
    exact I1.fpOk (Nat.le_refl _) (I1.hok.fresh (Nat.le_refl _))
end
end L2
end
section
/-! Tuples of ints held side by side; list(range(a, b, c)); comprehensions with a test. -/
namespace L2
open PySem PySem.Spec PyProof.Rows
set_option maxHeartbeats 4000000
set_option Elab.async false
set_option linter.unusedVariables false
theorem vals_of : ∀ (us : List Value) (ns : List Int), us.length = ns.length → (∀ (j : Nat) (u : Value), us[j]? = some u → ∃ t, ∃ i, ns[j]? = some i ∧ u = Value.int i t) → Vals (ns.map V.int) us
  | [], [], _, _ => .nil
  | x :: r, n :: ns, hl, hh => by
    obtain ⟨t, i, e1, e2⟩ := hh 0 x rfl
    have e1' : n = i := by simpa using e1
    subst e1' e2
    exact .cons ⟨t, rfl⟩ (vals_of r ns (by simpa using hl) fun j u h => hh (j + 1) u h)
theorem all_same (ns ms : List Int) : ((List.range (min ns.length ms.length)).all (fun j => ns.getD j 0 == ms.getD j 0) && (ns.length == ms.length)) = decide (ns = ms) := by
  rw [Bool.eq_iff_iff, Bool.and_eq_true, List.all_eq_true, decide_eq_true_eq, beq_iff_eq]
  constructor
  · rintro ⟨h1, h2⟩
    apply List.ext_getElem h2
    intro i a b
    have := h1 i (List.mem_range.mpr (by omega))
    rw [beq_iff_eq, List.getD_eq_getElem?_getD, List.getD_eq_getElem?_getD, List.getElem?_eq_getElem a, List.getElem?_eq_getElem b] at this
    exact this
  · rintro rfl
    exact ⟨fun i _ => by rw [beq_iff_eq], rfl⟩
theorem of_rcne' {prog : Program} {w : World} {A : Around} {E : Value → Shared → Prop} {s : Shared} {a b : Value} {k : Bool} {Q : Value → Shared → Prop} (h : SeqAt.RcNeAt A s a b k) (hq : Q (.bool k) s) : wpAny (model prog w) A (compareOp .NotEq a b) Q E s := h prog w E Q hq
section
variable {X : Cx}
theorem int_val {n : Int} {u : Value} (r : RelV (.int n) u) : ∃ t, u = .int n t := r
theorem ints_eqAt {A : Around} {s : Shared} {ns ms : List Int} {its its2 : List Value} (r1 : Vals (ns.map V.int) its) (r2 : Vals (ms.map V.int) its2) (j : Nat) (h1 : j < its.toArray.size) (h2 : j < its2.toArray.size) :
    SeqAt.EqAt A s its.toArray[j] its2.toArray[j] (ns.getD j 0 == ms.getD j 0) := by
  have l1 := r1.length
  have l2 := r2.length
  rw [List.length_map] at l1 l2
  simp only [List.size_toArray] at h1 h2
  have e1 : (ns.map V.int)[j]? = some (.int ns[j]) := by rw [List.getElem?_map, List.getElem?_eq_getElem (by omega)]; rfl
  have e2 : (ms.map V.int)[j]? = some (.int ms[j]) := by rw [List.getElem?_map, List.getElem?_eq_getElem (by omega)]; rfl
  obtain ⟨u, hu, ru⟩ := r1.get e1
  obtain ⟨v, hv, rv⟩ := r2.get e2
  obtain ⟨t, rfl⟩ := int_val ru
  obtain ⟨t', rfl⟩ := int_val rv
  have a1 : its.toArray[j] = .int ns[j] t := by
    have := (List.getElem?_eq_some_iff.mp hu).2
    simpa using this
  have a2 : its2.toArray[j] = .int ms[j] t' := by
    have := (List.getElem?_eq_some_iff.mp hv).2
    simpa using this
  rw [a1, a2, List.getD_eq_getElem?_getD, List.getD_eq_getElem?_getD, List.getElem?_eq_getElem (by omega), List.getElem?_eq_getElem (by omega)]
  exact SeqAt.EqAt.int_int _ _ _ _
end
end L2
end
section
/-! name = [comprehension]; comprehensions with a test; ranges walked by a comprehension. -/
namespace L2
open PySem PySem.Spec PyProof.Rows
set_option maxHeartbeats 4000000
set_option Elab.async false
set_option linter.unusedVariables false
/-- name = [comprehension]: the name is stored while the block still stands -/
def tSetC (i : Nat) (te : TE) : TS := fun D σ H => te σ H fun v H1 => D.nx (σ.set i (some v)) H1
theorem ps_comp {X : Cx} {elt tg iter : Expr} {ifs : List Expr} {scope : Scope} {pos pos' spos : Pos} {N : List Str} {nt : Nat} {js : List Nat} {sc : Scope} {N0 : List Str} {wi : TI} {g : TG} {tt : TT} {te : TE} {ii : Nat} {nm : Str}
    (hNd : X.N.Nodup) (hii : X.N[ii]? = some nm) (hloc : Loc X.env.scope nm)
    (hc : X.calm = true) (hsc : X.env.scope = sc) (hN : X.N = N0) (B : Blk sc N0 N nt js scope) (hi : PI X tg iter wi)
    (hg : ∀ cl C s H fp, PG (blk X N scope cl C s H fp) tg g) (ht : ∀ cl C s H fp, PTs (blk X N scope cl C s H fp) ifs tt) (he : ∀ cl C s H fp, PE (blk X N scope cl C s H fp) elt te)
    (hsw : swapsWith (.ListComp elt [⟨tg, iter, ifs, 0⟩] scope pos) (some (.Name nm pos')) spos.line X.env = pure true := by rfl)
    (hf : X.fn nm = true ∨ X.env.scope.names.lookup nm = some .local := by first | exact .inl rfl | exact .inr rfl | assumption)
    (hs : ∀ x, foldedSetIterable iter X.env x = pure x := by intro _; rfl) : PS X (.Assign [.Name nm pos'] (.ListComp elt [⟨tg, iter, ifs, 0⟩] scope pos) spos) (tSetC ii (tComp nt js wi g tt te)) := by
  subst hsc hN
  intro pins s σ H D I h
  obtain ⟨cl, hcl, c1, c2⟩ := clos_of (env := X.env) (scope := scope) fun y hy hk => I.ok.has y.1 (B.cap y hy hk)
  rw [PySem.exec_Assign_Name_used _ _ _ _ hsw]
  refine wpAny_bind (wpAny_standAt (wpAny_bind ?_))
  show wpAny _ _ (comprehension _ scope X.env _ _ _ _ (some (assign (.Name nm pos') X.env)) >>= _) _ _ _
  refine wpAny_bind (thn (Q := fun _ s' => ∃ σ' H', Inv X pins σ' H' s' ∧ D.nx σ' H') ?_ fun _ s9 q9 => wpAny_pure (wpAny_pure q9))
  refine wpAny_comprehension_free (use := some (assign (.Name nm pos') X.env)) rfl hs hcl B.kind B.loc (thn (hi pins s σ H _ I h) fun v s1 q1 => thn q1 fun itv s2 q2 => ?_)
  obtain ⟨it, fp, tn, J, H2, e, I2, T, st2, f2, q2⟩ := q2
  subst e
  obtain ⟨W, ⟨m0, w0⟩, turn⟩ := q2 s2.heap.objs.size (I2.hok.fresh (Nat.le_refl _))
  have hlt : ∀ b ∈ fp, b < s2.heap.objs.size := fun b hb => by
    obtain ⟨o, eo, _⟩ := T.obj _ _ st2 b hb
    exact Heap.lt_size eo
  refine wpAny_newObj_type (wpAny_newFunctionEnv B.nocell (by intro y hy; simp at hy) (fun h1 hns hsb => ?_) B.kind)
  dsimp only at hns hsb ⊢
  have hsz : (s2.heap.push { cls := .type "list", dict := none, data := .seq ([] : List Value).toArray }).objs.size = s2.heap.objs.size + 1 := by rw [Heap.size_push]
  have old : ∀ b o, s2.heap.get? b = some o → h1.get? b = some o := fun b o eb => hsb.extBut b o (by rw [hsz]; exact Nat.ne_of_lt (Nat.lt_succ_of_lt (Heap.lt_size eb))) (Heap.get?_push_of_some _ (Heap.get?_push_of_some _ eb))
  have hD : h1.get? s2.heap.objs.size = some { cls := .type "list", data := .seq ([] : List Value).toArray 0 } := hsb.extBut _ _ (by rw [hsz]; exact Nat.ne_of_lt (Nat.lt_succ_self _)) (Heap.get?_push_of_some _ (Heap.get?_push_size _ rfl))
  rw [hsz] at hns
  have I3 := blk_start (cl := cl) (fp := fp) (tk := s2.toks + ([] : List (Str × Value)).length) I2 B c1 c2 f2 hlt old (show h1.Ns (s2.heap.objs.size + 1) fun _ => none from hns) hD
  have stat : ∀ {H' : Hp}, (∀ b ∈ fp, H' b = none) → ∀ b ∈ fp, FpOk (blk X N scope cl (s2.heap.objs.size + 1) s2 H2 fp) [] H' b := fun {H'} hn b hb =>
    ⟨hn b hb, Nat.ne_of_lt (Nat.lt_succ_of_lt (hlt b hb)), fun z => (List.mem_cons.mp (I2.stkSub b z)).elim (f2 b hb).2.1 (f2 b hb).2.2.1, .inl hb, fun x c ec => (f2 b hb).2.2.2.2.1 x c (c1 x c ec), fun p hp => absurd (show p ∈ ([] : List (Addr × Obj)) from hp) (by simp)⟩
  have fin : ∀ {i : Nat} {σ' : St} {H' : Hp} {s' : Shared}, Inv (blk X N scope cl (s2.heap.objs.size + 1) s2 H2 fp) [] σ' H' s' → D.nx (σ.set ii (some (.ref s2.heap.objs.size))) H' →
      compPost (model X.prog X.w) X.A X.xe (some (assign (.Name nm pos') X.env)) (fun _ s' => ∃ σ' H', Inv X pins σ' H' s' ∧ D.nx σ' H') (.ref s2.heap.objs.size) (s2.heap.objs.size + 1) (.ok .next) s' := fun {i σ' H' s'} Ib q => by
    obtain ⟨m, hn, _⟩ := id Ib.loc
    have I4 : Inv X pins σ H' s' := I2.call' Ib.os Ib.base Ib.hok Ib.bare fun b hb => ⟨(f2 b hb).2.2.2.1, (f2 b hb).2.1, (f2 b hb).2.2.2.2.1, (f2 b hb).2.2.2.2.2⟩
    obtain ⟨g0, g1, g2, g3, g4, g5⟩ := I2.fpOk (H' := H') (Nat.le_succ _) Ib.free
    show wpAny _ _ (assign (.Name nm pos') X.env (.ref s2.heap.objs.size)) _ _ _
    refine wpAny_bind (wpAny_standAt (wpAny_bindName (store_ok2 I4 hNd hii hloc (v := .ref s2.heap.objs.size) rfl (fun s5 I5 ⟨a, sb, ha⟩ => ?_) hf)))
    have na : s2.heap.objs.size + 1 ≠ a := by
      rcases ha with rfl | ha
      · exact g1
      · exact fun z => g4 _ _ ha z.symm
    refine ⟨m, hn.sameBut sb na, fun h'' hs'' => ?_⟩
    exact ⟨_, H', I5.turned (t' := s5.toks) (fun b o hb eb => hs''.extBut b o hb eb) g0 g1 g3 g4 g5, q⟩
  have loop : codeAny (model X.prog X.w) X.A (.compLoop (.ListComp elt [⟨tg, iter, ifs, 0⟩] scope pos) 0 (.ref it) (.ref s2.heap.objs.size) (compEnvC scope cl (s2.heap.objs.size + 1) X.env))
      (compPost (model X.prog X.w) X.A X.xe (some (assign (.Name nm pos') X.env)) (fun _ s' => ∃ σ' H', Inv X pins σ' H' s' ∧ D.nx σ' H') (.ref s2.heap.objs.size) (s2.heap.objs.size + 1)) { s2 with heap := h1, toks := s2.toks + ([] : List (Str × Value)).length } := by
    refine comp_turns (fun n s' => ∃ i σ' H', Inv (blk X N scope cl (s2.heap.objs.size + 1) s2 H2 fp) [] σ' H' s' ∧ tn i s'.heap ∧ (∀ b ∈ fp, H' b = none) ∧ W i n σ' H') ?_ m0
      ⟨0, _, _, I3, T.keep _ _ _ st2 fun b _ o eb => old b o eb, fun b hb => ?_, w0⟩
    · rintro n s3 ⟨i, σ3, H3, J3, st3, fr3, w3⟩
      rcases turn i n σ3 H3 w3 with ⟨stop, qn⟩ | ⟨go, step⟩
      · refine thn (T.done (blk X N scope cl (s2.heap.objs.size + 1) s2 H2 fp) rfl rfl rfl hc i [] s3 σ3 H3 _ J3 (stat fr3) st3 stop) fun r s4 ⟨hr, I4⟩ => ?_
        subst hr
        exact fin (i := i) I4 qn
      · refine thn (T.item (blk X N scope cl (s2.heap.objs.size + 1) s2 H2 fp) rfl rfl rfl hc i [] s3 σ3 H3 _ J3 (stat fr3) st3 go) fun r s4 ⟨u, hr, h4⟩ => ?_
        subst hr
        refine thn h4 fun _ s5 ⟨x, H5, I5, r5, y5, st5, fr5⟩ => ?_
        have I5' := I5.pinned (stat fr5) (T.obj _ _ st5)
        refine thn (hg _ _ _ _ _ _ s5 σ3 H5 x u _ I5' r5 (step x H5 y5)) fun _ s6 ⟨σ6, H6, I6, q6⟩ => ?_
        have again : ∀ {σ7 : St} {H7 : Hp} {s7 : Shared} {k : Nat}, Inv (blk X N scope cl (s2.heap.objs.size + 1) s2 H2 fp) ([] ++ pinsAt fp s5.heap) σ7 H7 s7 → k < n → W (i + 1) k σ7 H7 →
            ∃ k, k < n ∧ ∃ i σ' H', Inv (blk X N scope cl (s2.heap.objs.size + 1) s2 H2 fp) [] σ' H' s7 ∧ tn i s7.heap ∧ (∀ b ∈ fp, H' b = none) ∧ W i k σ' H' := fun {σ7 H7 s7 k} I7 hk w7 => by
          refine ⟨k, hk, i + 1, σ7, H7, I7.unpinned, T.keep _ _ _ st5 fun b hb o eb => (I7.pin (b, o) (List.mem_append_right _ (List.mem_append_right _ (mem_pinsAt hb eb)))).1, fun b hb => ?_, w7⟩
          obtain ⟨o, eb, _⟩ := T.obj _ _ st5 b hb
          exact (I7.pin (b, o) (List.mem_append_right _ (List.mem_append_right _ (mem_pinsAt hb eb)))).2.1
        refine thn (ht _ _ _ _ _ _ s6 σ6 H6 _ I6 q6) fun ok s7 ⟨H7, I7, q7⟩ => ?_
        cases ok with
        | false =>
          rw [if_neg Bool.false_ne_true] at q7 ⊢
          obtain ⟨k, hk, w7⟩ := q7
          exact again I7 hk w7
        | true =>
          rw [if_pos rfl] at q7 ⊢
          refine thn (he _ _ _ _ _ _ s7 σ6 H7 _ I7 q7) fun y s8 ⟨v8, H8, I8, r8, ys, e8, z8, k, hk, w8⟩ => ?_
          refine thn (mt_append _ s8 σ6 H8 (.ref s2.heap.objs.size) [v8] _ [y] (fun _ H9 => W (i + 1) k σ6 H9) I8 rfl (.cons r8 .nil) ⟨_, ys, v8, rfl, rfl, e8, z8, w8⟩) fun _ s9 ⟨_, H9, I9, _, w9⟩ => ?_
          exact again I9 hk w9
    · show upd H2 _ _ b = none
      rw [upd_ne (Nat.ne_of_lt (hlt b hb))]
      exact (f2 b hb).1
  rw [hsz]
  exact codeAny_compStart_list loop (T.self _ 0 _ _ _ (T.keep _ _ _ st2 fun b _ o eb => old b o eb) loop)

end L2
end
section
/-! Comprehensions with a test; ranges and reversed tuples walked by one. -/
namespace L2
open PySem PySem.Spec PyProof.Rows
set_option maxHeartbeats 4000000
set_option Elab.async false
set_option linter.unusedVariables false
theorem range_filter_succ (n : Nat) (keep : Nat → Bool) : (List.range (n + 1)).filter keep = (List.range n).filter keep ++ (if keep n = true then [n] else []) := by
  rw [List.range_succ, List.filter_append]
  congr 1
  cases h : keep n <;> simp [h]
theorem comp_sel {J : It} {g : TG} {tt : TT} {te : TE} {Q : VK} {D : Addr} {H1 : Hp} {σ0 : St} (n : Nat) (hn : n ≤ sizeLine) (keep : Nat → Bool) (f : Nat → V) (Sg : St → Prop) (itm : Nat → Hp → V → Prop) (hD : H1 D = none) (s0 : Sg σ0)
    (items : ∀ i H, Same H1 H → (i < n → J.go i H ∧ ∀ x H2, J.yld i H x H2 → Same H H2 ∧ itm i H2 x) ∧ (n ≤ i → J.stop i H))
    (step : ∀ i x σ' H, i < n → Same H1 H → itm i H x → Sg σ' → ∀ (R : St → V → Hp → Prop) (S : St → Hp → Prop), (keep i = true → ∀ σ3 y H5, Sg σ3 → Same H H5 → y = f i → R σ3 y H5) → (keep i = false → ∀ σ3 H4, Sg σ3 → Same H H4 → S σ3 H4) →
      g x σ' H fun σ3 H3 => tt σ3 H3 fun ok H4 => if ok = true then te σ3 H4 (R σ3) else S σ3 H4)
    (fin : ∀ H', Same H1 H' → H' D = some (.lst (((List.range n).filter keep).map f)) → Q (.ref D) H') :
    cmpW J g tt te Q D σ0 H1 := by
  refine ⟨fun i m σ H => m = n - i ∧ i ≤ n ∧ Sg σ ∧ Same H1 H ∧ H D = some (.lst (((List.range i).filter keep).map f)), ⟨n, by omega, Nat.zero_le _, s0, (Same.refl H1).upd_free hD _, upd_same⟩, ?_⟩
  rintro i m σ H ⟨rfl, hi, hs, sm, hd⟩
  by_cases hlt : i < n
  · obtain ⟨go, yl⟩ := (items i H sm).1 hlt
    refine .inr ⟨go, fun x H2 y => ?_⟩
    obtain ⟨s2, im⟩ := yl x H2 y
    refine step i x σ H2 hlt (sm.trans s2) im hs _ _ (fun kp σ3 y H5 g3 s5 ey => ?_) (fun kp σ3 H4 g3 s4 => ?_)
    · have ll : (((List.range i).filter keep).map f).length ≤ i := by
        rw [List.length_map]
        exact Nat.le_trans (List.length_filter_le _ _) (by rw [List.length_range]; exact Nat.le_refl _)
      refine ⟨_, s5 _ _ (s2 _ _ hd), by omega, n - (i + 1), by omega, rfl, by omega, g3, (sm.trans (s2.trans s5)).upd_free hD _, ?_⟩
      rw [upd_same, ey, range_filter_succ, if_pos kp, List.map_append]
      rfl
    · refine ⟨n - (i + 1), by omega, rfl, by omega, g3, sm.trans (s2.trans s4), ?_⟩
      rw [s4 _ _ (s2 _ _ hd), range_filter_succ, if_neg (by rw [kp]; exact Bool.false_ne_true), List.append_nil]
  · have e : i = n := by omega
    subst e
    exact .inl ⟨(items i H sm).2 (Nat.le_refl _), fin H sm hd⟩
theorem items_rng {H1 : Hp} (lo : Int) (n : Nat) (i : Nat) (H : Hp) (s : Same H1 H) :
    (i < n → (Itr lo n).go i H ∧ ∀ x H2, (Itr lo n).yld i H x H2 → Same H H2 ∧ x = .int (lo + (i : Int))) ∧ (n ≤ i → (Itr lo n).stop i H) := by
  refine ⟨fun hi => ⟨hi, fun x H2 ⟨e, y⟩ => ?_⟩, fun hi => hi⟩
  subst e
  exact ⟨Same.refl _, y⟩
end L2
end
section
/-! BALLS AND BOXES: a carrier goes from the left to the right over the boxes. -/
namespace BB
/-- at one box: the load behind it, and whether a ball lies there then -/
def stp (z L : Nat) (b : Bool) : Nat × Bool :=
  if b then (if L < z then (L + 1, false) else (L, true)) else (if 0 < L then (L - 1, true) else (0, false))
def out (z : Nat) : Nat → List Bool → List Bool
  | _, [] => []
  | L, b :: r => (stp z L b).2 :: out z (stp z L b).1 r
def fin (z : Nat) : Nat → List Bool → Nat
  | L, [] => L
  | L, b :: r => fin z (stp z L b).1 r
theorem fin_append (z : Nat) : ∀ (L : Nat) (x y : List Bool), fin z L (x ++ y) = fin z (fin z L x) y
  | _, [], _ => rfl
  | L, b :: r, y => fin_append z _ r y
theorem out_length (z : Nat) : ∀ (L : Nat) (bs : List Bool), (out z L bs).length = bs.length
  | _, [] => rfl
  | L, b :: r => by
    show (out z _ r).length + 1 = r.length + 1
    rw [out_length z _ r]
theorem count_out {z : Nat} : ∀ {L : Nat} {bs : List Bool}, (out z L bs).count true + fin z L bs = L + bs.count true
  | L, [] => by simp [out, fin]
  | L, b :: r => by
    have ih := count_out (z := z) (L := (stp z L b).1) (bs := r)
    have e1 : out z L (b :: r) = (stp z L b).2 :: out z (stp z L b).1 r := rfl
    have e2 : fin z L (b :: r) = fin z (stp z L b).1 r := rfl
    rw [e1, e2, List.count_cons, List.count_cons]
    have k : (stp z L b).1 + (if (stp z L b).2 == true then 1 else 0) = L + (if b == true then 1 else 0) := by
      unfold stp
      cases b
      · simp only [Bool.false_eq_true, if_false]
        split <;> simp <;> omega
      · simp only [if_true]
        split <;> simp
    omega
/-- the places of the balls -/
def places : Int → List Bool → List Int
  | _, [] => []
  | lo, b :: r => (if b = true then [lo] else []) ++ places (lo + 1) r
theorem places_append : ∀ (lo : Int) (x y : List Bool), places lo (x ++ y) = places lo x ++ places (lo + (x.length : Int)) y
  | lo, [], y => by show places lo y = places (lo + ((0 : Nat) : Int)) y; congr 1; omega
  | lo, b :: r, y => by
    show _ ++ places (lo + 1) (r ++ y) = (_ ++ places (lo + 1) r) ++ places (lo + ((r.length + 1 : Nat) : Int)) y
    rw [places_append (lo + 1) r y, List.append_assoc]
    congr 3
    omega
theorem places_length : ∀ (lo : Int) (bs : List Bool), (places lo bs).length = bs.count true
  | _, [] => rfl
  | lo, b :: r => by
    show (_ ++ places (lo + 1) r).length = _
    rw [List.length_append, places_length (lo + 1) r, List.count_cons]
    cases b <;> simp <;> omega
theorem places_ge : ∀ {lo : Int} {bs : List Bool} {p : Int}, p ∈ places lo bs → lo ≤ p ∧ p < lo + (bs.length : Int)
  | lo, [], p, h => by cases h
  | lo, b :: r, p, h => by
    rcases List.mem_append.mp (show p ∈ (if b = true then [lo] else []) ++ places (lo + 1) r from h) with h | h
    · cases b
      · cases h
      · have : p = lo := by simpa using h
        subst this
        simp only [List.length_cons]
        omega
    · have := places_ge h
      simp only [List.length_cons]
      omega
theorem places_up : ∀ (lo : Int) (bs : List Bool), (places lo bs).Pairwise (· < ·)
  | _, [] => .nil
  | lo, b :: r => by
    refine List.pairwise_append.mpr ⟨by cases b <;> simp, places_up (lo + 1) r, fun x hx y hy => ?_⟩
    have := places_ge hy
    cases b
    · cases hx
    · have : x = lo := by simpa using hx
      omega
/-- as many places on from lo -/
def row (lo : Int) (n : Nat) : List Int := (List.range n).map fun (k : Nat) => lo + (k : Int)
theorem row_zero (lo : Int) : row lo 0 = [] := rfl
theorem row_succ (lo : Int) (n : Nat) : row lo (n + 1) = lo :: row (lo + 1) n := by
  unfold row
  rw [List.range_succ_eq_map, List.map_cons, List.map_map]
  congr 1
  · show lo + ((0 : Nat) : Int) = lo
    omega
  · refine List.map_congr_left fun k _ => ?_
    show lo + ((k + 1 : Nat) : Int) = lo + 1 + (k : Int)
    omega
/-- ball by ball -/
def sp (z : Nat) : Nat → Int → List Int → List Int
  | L, box, [] => row box L
  | L, box, p :: r => row box (min L (p - box).toNat) ++
    (if L - min L (p - box).toNat < z then sp z (L - min L (p - box).toNat + 1) (p + 1) r else p :: sp z (L - min L (p - box).toNat) (p + 1) r)
theorem sp_gap {z L : Nat} {lo : Int} {rw_ : List Int} (h : ∀ p ∈ rw_, lo + 1 ≤ p) : sp z L lo rw_ = if 0 < L then lo :: sp z (L - 1) (lo + 1) rw_ else sp z 0 (lo + 1) rw_ := by
  cases rw_ with
  | nil =>
    show row lo L = if 0 < L then lo :: row (lo + 1) (L - 1) else row (lo + 1) 0
    cases L with
    | zero => rfl
    | succ L => rw [if_pos (Nat.succ_pos L), row_succ]; rfl
  | cons p r =>
    have hp := h p (List.mem_cons_self ..)
    cases L with
    | zero =>
      rw [if_neg (by omega)]
      unfold sp
      rw [Nat.zero_min, Nat.zero_min]
      rfl
    | succ L =>
      rw [if_pos (Nat.succ_pos L)]
      have e : min (L + 1) (p - lo).toNat = min L (p - (lo + 1)).toNat + 1 := by omega
      unfold sp
      rw [e, row_succ, show L + 1 - 1 = L from rfl, show L + 1 - (min L (p - (lo + 1)).toNat + 1) = L - min L (p - (lo + 1)).toNat by omega]
      rfl
theorem sp_places (z : Nat) : ∀ (L : Nat) (lo : Int) (bs : List Bool), sp z L lo (places lo bs) = places lo (out z L bs) ++ row (lo + (bs.length : Int)) (fin z L bs)
  | L, lo, [] => by
    show row lo L = [] ++ row (lo + ((0 : Nat) : Int)) L
    rw [List.nil_append]
    congr 1
    omega
  | L, lo, false :: r => by
    have e : places lo (false :: r) = places (lo + 1) r := rfl
    rw [e, sp_gap fun p hp => (places_ge hp).1]
    have el : lo + 1 + (r.length : Int) = lo + ((false :: r).length : Int) := by simp only [List.length_cons]; omega
    by_cases c : 0 < L
    · rw [if_pos c, sp_places z (L - 1) (lo + 1) r, el]
      have e1 : stp z L false = (L - 1, true) := by unfold stp; simp only [Bool.false_eq_true, if_false, if_pos c]
      show _ = ((if (stp z L false).2 = true then [lo] else []) ++ places (lo + 1) (out z (stp z L false).1 r)) ++ row _ (fin z (stp z L false).1 r)
      rw [e1]
      rfl
    · rw [if_neg c, sp_places z 0 (lo + 1) r, el]
      have e1 : stp z L false = (0, false) := by unfold stp; simp only [Bool.false_eq_true, if_false, if_neg c]
      show _ = ((if (stp z L false).2 = true then [lo] else []) ++ places (lo + 1) (out z (stp z L false).1 r)) ++ row _ (fin z (stp z L false).1 r)
      rw [e1]
      rfl
  | L, lo, true :: r => by
    have e : places lo (true :: r) = lo :: places (lo + 1) r := rfl
    have el : lo + 1 + (r.length : Int) = lo + ((true :: r).length : Int) := by simp only [List.length_cons]; omega
    rw [e]
    unfold sp
    have em : min L (lo - lo).toNat = 0 := by rw [Int.sub_self]; exact Nat.min_zero L
    rw [em, row_zero, List.nil_append, Nat.sub_zero]
    by_cases c : L < z
    · rw [if_pos c, sp_places z (L + 1) (lo + 1) r, el]
      have e1 : stp z L true = (L + 1, false) := by unfold stp; simp only [if_true, if_pos c]
      show _ = ((if (stp z L true).2 = true then [lo] else []) ++ places (lo + 1) (out z (stp z L true).1 r)) ++ row _ (fin z (stp z L true).1 r)
      rw [e1]
      rfl
    · rw [if_neg c, sp_places z L (lo + 1) r, el]
      have e1 : stp z L true = (L, true) := by unfold stp; simp only [if_true, if_neg c]
      show _ = ((if (stp z L true).2 = true then [lo] else []) ++ places (lo + 1) (out z (stp z L true).1 r)) ++ row _ (fin z (stp z L true).1 r)
      rw [e1]
      rfl
theorem sp_free {z : Nat} {box box' : Int} : ∀ {r : List Int}, sp z 0 box r = sp z 0 box' r
  | [] => rfl
  | p :: r => by
    unfold sp
    rw [Nat.zero_min, Nat.zero_min]
    rfl
/-- the row behind a step of a carrier -/
def step (z : Nat) (r : List Int) : List Int := sp z 0 (r.headD 0) r
theorem step_places {z : Nat} {lo : Int} {bs : List Bool} (h : fin z 0 bs = 0) : step z (places lo bs) = places lo (out z 0 bs) := by
  unfold step
  rw [sp_free (box' := lo), sp_places, h, row_zero, List.append_nil]
/-- every rising row is the places of some boxes -/
theorem cells : ∀ (n : Nat) (lo : Int) (r : List Int), r.Pairwise (· < ·) → (∀ p ∈ r, lo ≤ p ∧ p < lo + (n : Int)) → ∃ bs : List Bool, bs.length = n ∧ places lo bs = r
  | 0, lo, r, _, h => by
    cases r with
    | nil => exact ⟨[], rfl, rfl⟩
    | cons p r => have := h p (List.mem_cons_self ..); omega
  | n + 1, lo, r, up, h => by
    cases r with
    | nil =>
      obtain ⟨bs, e1, e2⟩ := cells n (lo + 1) [] .nil (fun p hp => by cases hp)
      exact ⟨false :: bs, by rw [List.length_cons, e1], e2⟩
    | cons p r =>
      obtain ⟨u1, u2⟩ := List.pairwise_cons.mp up
      have hp := h p (List.mem_cons_self ..)
      by_cases c : p = lo
      · subst c
        obtain ⟨bs, e1, e2⟩ := cells n (p + 1) r u2 fun q hq => by
          have := u1 q hq
          have := h q (List.mem_cons_of_mem _ hq)
          omega
        refine ⟨true :: bs, by rw [List.length_cons, e1], ?_⟩
        show [p] ++ places (p + 1) bs = _
        rw [e2]
        rfl
      · obtain ⟨bs, e1, e2⟩ := cells n (lo + 1) (p :: r) up fun q hq => by
          have := h q hq
          rcases List.mem_cons.mp hq with rfl | hq'
          · omega
          · have := u1 q hq'
            omega
        exact ⟨false :: bs, by rw [List.length_cons, e1], e2⟩
theorem fin_falses (z : Nat) : ∀ (k L : Nat), fin z L (List.replicate k false) = L - k
  | 0, L => rfl
  | k + 1, L => by
    show fin z (stp z L false).1 (List.replicate k false) = _
    rw [fin_falses z k]
    unfold stp
    simp only [Bool.false_eq_true, if_false]
    split <;> simp only <;> omega
theorem places_falses : ∀ (k : Nat) (lo : Int), places lo (List.replicate k false) = []
  | 0, _ => rfl
  | k + 1, lo => places_falses k (lo + 1)
/-- with boxes enough behind, the carrier ends with nothing -/
theorem window (z : Nat) {A B : Int} {r : List Int} (up : r.Pairwise (· < ·)) (h : ∀ p ∈ r, A ≤ p ∧ p ≤ B) : ∃ bs : List Bool, places A bs = r ∧ fin z 0 bs = 0 ∧ bs.count true = r.length ∧ (r ≠ [] → A + (bs.length : Int) ≤ B + 1 + (r.length : Int)) := by
  obtain ⟨bs, e1, e2⟩ := cells (B + 1 - A).toNat A r up fun p hp => by have := h p hp; omega
  have hc : bs.count true = r.length := by rw [← places_length A bs, e2]
  have hf : fin z 0 bs ≤ r.length := by have := count_out (z := z) (L := 0) (bs := bs); omega
  refine ⟨bs ++ List.replicate (fin z 0 bs) false, ?_, ?_, ?_, fun ne => ?_⟩
  · rw [places_append, places_falses, List.append_nil, e2]
  · rw [fin_append, fin_falses, Nat.sub_self]
  · rw [List.count_append, hc]
    have : (List.replicate (fin z 0 bs) false).count true = 0 := by simp [List.count_replicate]
    omega
  · cases r with
    | nil => exact absurd rfl ne
    | cons p r =>
      have := h p (List.mem_cons_self ..)
      rw [List.length_append, List.length_replicate, e1]
      omega
/-- rising, so many, between A and B -/
structure Rw (r : List Int) (k : Nat) (A B : Int) : Prop where
  up : r.Pairwise (· < ·)
  len : r.length = k
  bd : ∀ p ∈ r, A ≤ p ∧ p ≤ B
theorem Rw.mono {r : List Int} {k : Nat} {A B A' B' : Int} (h : Rw r k A B) (ha : A' ≤ A) (hb : B ≤ B') : Rw r k A' B' := ⟨h.up, h.len, fun p hp => by have := h.bd p hp; omega⟩
theorem Rw.step {r : List Int} {k : Nat} {A B : Int} (z : Nat) (h : Rw r k A B) : Rw (step z r) k A (B + (k : Int)) := by
  obtain ⟨bs, e1, e2, e3, e4⟩ := window z h.up h.bd
  have hc := count_out (z := z) (L := 0) (bs := bs)
  rw [← e1, step_places e2]
  refine ⟨places_up _ _, by rw [places_length]; have := h.len; omega, fun p hp => ?_⟩
  have := places_ge hp
  rw [out_length] at this
  have ne : r ≠ [] := fun w => by
    have : (places A (out z 0 bs)).length = 0 := by rw [places_length]; rw [w] at e3; simp only [List.length_nil] at e3; omega
    rw [List.length_eq_zero_iff] at this
    rw [this] at hp
    cases hp
  have := e4 ne
  have := h.len
  omega
end BB
end
section
/-! Steps again and again, shifts, loads. -/
namespace BB
def it (f : List Int → List Int) : Nat → List Int → List Int
  | 0, r => r
  | n + 1, r => f (it f n r)
theorem Rw.its {z : Nat} {r : List Int} {k : Nat} {A B : Int} (h : Rw r k A B) : ∀ n : Nat, Rw (it (BB.step z) n r) k A (B + (n : Int) * (k : Int))
  | 0 => by
    show Rw r k A (B + ((0 : Nat) : Int) * (k : Int))
    rw [show ((0 : Nat) : Int) * (k : Int) = 0 by simp, Int.add_zero]
    exact h
  | n + 1 => by
    have := (h.its (z := z) n).step z
    rw [show B + ((n + 1 : Nat) : Int) * (k : Int) = B + (n : Int) * (k : Int) + (k : Int) by rw [Int.natCast_add, Int.add_mul]; omega]
    exact this
/-! shifts -/
/-! loads -/
def ld (L : Nat) (b : Bool) : Nat := if b then L + 1 else L - 1
def lst : Nat → List Bool → Nat
  | L, [] => L
  | L, b :: r => lst (ld L b) r
theorem stp_ld {z L : Nat} {b : Bool} (h : b = true → L < z) : stp z L b = (ld L b, !b && decide (0 < L)) := by
  unfold stp ld
  cases b
  · simp only [Bool.false_eq_true, if_false, Bool.not_false, Bool.true_and]
    split
    · rename_i c
      simp [c]
    · rename_i c
      have : L = 0 := by omega
      subst this
      simp
  · simp only [if_true, if_pos (h rfl), Bool.not_true, Bool.false_and]
theorem ld_bound {z L : Nat} {b : Bool} {r : List Bool} (h : L + (b :: r).count true ≤ z) : ld L b + r.count true ≤ z ∧ (b = true → L < z) := by
  rw [List.count_cons] at h
  unfold ld
  cases b
  · simp at h ⊢
    omega
  · simp at h ⊢
    omega
end BB
end
section
/-! name = [comprehension over one name]; two more built-ins. -/
namespace L2
open PySem PySem.Spec PyProof.Rows
set_option maxHeartbeats 4000000
set_option Elab.async false
set_option linter.unusedVariables false
structure Nb2 (mg : Str → Option Value) : Prop extends Nb mg where
  rev : mg "reversed" = none
  abs : mg "abs" = none
section
variable {X : Cx} {elt iter : Expr} {ifs : List Expr} {scope : Scope} {pos pos' spos : Pos} {N : List Str} {js : List Nat} {sc : Scope} {N0 : List Str} {wi : TI} {tt : TT} {te : TE} {x nm : Str} {px : Pos} {ii : Nat}
end
end L2
end
section
set_option Elab.async false
set_option linter.all false
set_option maxRecDepth 100000
namespace L2
open PySem PySem.Spec PyProof.Rows

/-! ### lists of pairs as tables -/
section
variable {κ : Type} [DecidableEq κ]
def valV (kvs : List (κ × V)) (k : κ) : Option V := (kvs.find? fun kv => decide (kv.1 = k)).map (·.2)
/-- in its place, or at the end -/
def putK (kvs : List (κ × V)) (k : κ) (v : V) : List (κ × V) :=
  if (kvs.any fun kv => decide (kv.1 = k)) = true then kvs.map (fun kv => if kv.1 = k then (kv.1, v) else kv) else kvs ++ [(k, v)]
def dropK (kvs : List (κ × V)) (k : κ) : List (κ × V) := kvs.filter fun kv => decide (kv.1 ≠ k)

theorem valV_pos {p : κ × V} {r : List (κ × V)} {k : κ} (e : p.1 = k) : valV (p :: r) k = some p.2 := by simp [valV, List.find?_cons, e]
theorem valV_neg {p : κ × V} {r : List (κ × V)} {k : κ} (e : ¬ p.1 = k) : valV (p :: r) k = valV r k := by simp [valV, List.find?_cons, e]
theorem valV_any (k : κ) : ∀ kvs : List (κ × V), (kvs.any fun kv => decide (kv.1 = k)) = (valV kvs k).isSome
  | [] => rfl
  | p :: r => by
    rw [List.any_cons]
    by_cases e : p.1 = k
    · simp only [valV_pos e, decide_eq_true e, Bool.true_or, Option.isSome_some]
    · rw [valV_neg e, decide_eq_false e, Bool.false_or]; exact valV_any k r
theorem length_putK (kvs : List (κ × V)) (k : κ) (v : V) : (putK kvs k v).length ≤ kvs.length + 1 := by
  unfold putK
  split
  · rw [List.length_map]; omega
  · rw [List.length_append, List.length_cons, List.length_nil]; omega
theorem putK_new {kvs : List (κ × V)} {k : κ} (v : V) (h : valV kvs k = none) : putK kvs k v = kvs ++ [(k, v)] := by
  unfold putK
  rw [valV_any, h]
  exact if_neg (by decide)

theorem RelO.isSome_eq {o : Option V} {u : Option Value} (r : RelO o u) : o.isSome = u.isSome := by
  cases o with
  | none => cases u with
    | none => rfl
    | some _ => exact (show False from r).elim
  | some _ => cases u with
    | none => exact (show False from r).elim
    | some _ => rfl
theorem RelO.getD {o : Option V} {u : Option Value} {d : V} {d' : Value} (r : RelO o u) (rd : RelV d d') : RelV (o.getD d) (u.getD d') := by
  cases o with
  | none => cases u with
    | none => exact rd
    | some _ => exact (show False from r).elim
  | some _ => cases u with
    | none => exact (show False from r).elim
    | some _ => exact r

/-- raw tables of the same keys -/
theorem KV.val {kvs : List (κ × V)} {vs : List (κ × Value)} (r : KV kvs vs) (k : κ) : RelO (valV kvs k) (valueAt vs k) := by
  unfold KV at r
  induction r with
  | nil => exact True.intro
  | @cons p q ps qs h t ih =>
    obtain ⟨h1, h2⟩ := h
    by_cases e : p.1 = k
    · have e' : q.1 = k := h1.symm.trans e
      have b : valueAt (q :: qs) k = some q.2 := by simp [valueAt, List.find?_cons, e']
      rw [valV_pos e, b]; exact h2
    · have e' : ¬ q.1 = k := fun z => e (h1.trans z)
      have b : valueAt (q :: qs) k = valueAt qs k := by simp [valueAt, List.find?_cons, e']
      rw [valV_neg e, b]; exact ih
theorem KV.any {kvs : List (κ × V)} {vs : List (κ × Value)} (r : KV kvs vs) (k : κ) : (kvs.any fun kv => decide (kv.1 = k)) = vs.any fun kv => decide (kv.1 = k) := by
  unfold KV at r
  induction r with
  | nil => rfl
  | cons h t ih => rw [List.any_cons, List.any_cons, ih, h.1]
theorem KV.repl {kvs : List (κ × V)} {vs : List (κ × Value)} (r : KV kvs vs) (k : κ) {y : V} {u : Value} (ry : RelV y u) :
    KV (kvs.map fun kv => if kv.1 = k then (kv.1, y) else kv) (vs.map fun kv => if kv.1 = k then (kv.1, u) else kv) := by
  unfold KV at r ⊢
  induction r with
  | nil => exact .nil
  | @cons p q ps qs h t ih =>
    rw [List.map_cons, List.map_cons]
    refine .cons ?_ ih
    obtain ⟨h1, h2⟩ := h
    by_cases e : p.1 = k
    · rw [if_pos e, if_pos (h1.symm.trans e)]; exact ⟨h1, ry⟩
    · rw [if_neg e, if_neg (fun z => e (h1.trans z))]; exact ⟨h1, h2⟩
theorem KV.put {kvs : List (κ × V)} {vs : List (κ × Value)} (r : KV kvs vs) (k : κ) {y : V} {u : Value} (ry : RelV y u) : KV (putK kvs k y) (stored vs k u) := by
  unfold putK stored
  rw [r.any k]
  by_cases e : (vs.any fun kv => decide (kv.1 = k)) = true
  · rw [if_pos e, if_pos e]; exact r.repl k ry
  · rw [if_neg e, if_neg e]; exact Paired.snoc r ⟨rfl, ry⟩
theorem KV.drop {kvs : List (κ × V)} {vs : List (κ × Value)} (r : KV kvs vs) (k : κ) : KV (dropK kvs k) (without vs k) := by
  unfold KV at r ⊢
  unfold dropK without
  induction r with
  | nil => exact .nil
  | @cons p q ps qs h t ih =>
    obtain ⟨h1, h2⟩ := h
    rw [List.filter_cons, List.filter_cons]
    by_cases e : p.1 = k
    · have a : ¬ decide (p.1 ≠ k) = true := by simp [e]
      have b : ¬ decide (q.1 ≠ k) = true := by simp [h1.symm.trans e]
      rw [if_neg a, if_neg b]; exact ih
    · have e' : ¬ q.1 = k := fun z => e (h1.trans z)
      have a : decide (p.1 ≠ k) = true := by simp [e]
      have b : decide (q.1 ≠ k) = true := by simp [e']
      rw [if_pos a, if_pos b]; exact .cons ⟨h1, h2⟩ ih
theorem KV.keys {kvs : List (κ × V)} {vs : List (κ × Value)} (r : KV kvs vs) : kvs.map (·.1) = vs.map (·.1) := by
  unfold KV at r
  induction r with
  | nil => rfl
  | cons h t ih => rw [List.map_cons, List.map_cons, ih, h.1]
theorem KV.length {kvs : List (κ × V)} {vs : List (κ × Value)} (r : KV kvs vs) : kvs.length = vs.length := Paired.length r
theorem dropK_le (kvs : List (κ × V)) (k : κ) : (dropK kvs k).length ≤ kvs.length := List.length_filter_le _ _
end


/-! ### a tracked dict, its keys ints and texts or tuples of these -/
theorem kV_is {P : Program} {w : World} {k : Key} {u : Value} (r : RelV (kV k) u) : (mixKind P w).is k u = true := by
  cases k with
  | inl i => obtain ⟨t, e⟩ := (show ∃ t, u = Value.int i t from r); subst e; exact mixKind_int P w i t
  | inr x => obtain ⟨t, e⟩ := (show ∃ t, u = Value.str x t from r); subst e; exact mixKind_str P w x t
theorem items_are {P : Program} {w : World} : ∀ {ks : List Key} {us : List Value}, Vals (ks.map kV) us → ItemsAre (mixKind P w) ks us
  | [], _, r => by rw [List.map_nil] at r; cases r; exact .nil
  | k :: ks, _, r => by
    rw [List.map_cons] at r
    cases r with
    | cons h t => exact .cons (kV_is h) (items_are t)

/-- raw entries of a dict with tuple keys -/
abbrev KT (H : Hp) : List (List Key × V) → List (List Key × Addr × Value) → Prop := Paired fun p q => p.1 = q.1 ∧ H q.2.1 = some (.tup (p.1.map kV)) ∧ RelV p.2 q.2.2
theorem KT.val {H : Hp} {kvs : List (List Key × V)} {xs : List (List Key × Addr × Value)} (r : KT H kvs xs) (k : List Key) : RelO (valV kvs k) ((atKey xs k).map (·.2)) := by
  induction r with
  | nil => exact True.intro
  | @cons p q ps qs h t ih =>
    obtain ⟨h1, _, h2⟩ := h
    by_cases e : p.1 = k
    · have e' : q.1 = k := h1.symm.trans e
      have b : atKey (q :: qs) k = some q.2 := by simp [atKey, List.find?_cons, e']
      rw [valV_pos e, b]; exact h2
    · have e' : ¬ q.1 = k := fun z => e (h1.trans z)
      have b : atKey (q :: qs) k = atKey qs k := by simp [atKey, List.find?_cons, e']
      rw [valV_neg e, b]; exact ih
theorem KT.repl {H : Hp} {kvs : List (List Key × V)} {xs : List (List Key × Addr × Value)} (r : KT H kvs xs) (k : List Key) {y : V} {u : Value} (ry : RelV y u) :
    KT H (kvs.map fun kv => if kv.1 = k then (kv.1, y) else kv) (xs.map (putAt k u)) := by
  induction r with
  | nil => exact .nil
  | @cons p q ps qs h t ih =>
    rw [List.map_cons, List.map_cons]
    refine .cons ?_ ih
    obtain ⟨h1, h2, h3⟩ := h
    unfold putAt
    by_cases e : p.1 = k
    · rw [if_pos e, if_pos (h1.symm.trans e)]; exact ⟨h1, h2, ry⟩
    · rw [if_neg e, if_neg (fun z => e (h1.trans z))]; exact ⟨h1, h2, h3⟩
theorem KT.put {H : Hp} {kvs : List (List Key × V)} {xs : List (List Key × Addr × Value)} (r : KT H kvs xs) (k : List Key) {b : Addr} {y : V} {u : Value} (hb : H b = some (.tup (k.map kV))) (ry : RelV y u) :
    KT H (putK kvs k y) (storedH xs k b u) := by
  have e : (kvs.any fun kv => decide (kv.1 = k)) = (atKey xs k).isSome := by
    rw [valV_any, (r.val k).isSome_eq, Option.isSome_map]
  unfold putK storedH
  rw [e]
  by_cases q : (atKey xs k).isSome = true
  · rw [if_pos q, if_pos q]; exact r.repl k ry
  · rw [if_neg q, if_neg q]; exact Paired.snoc r ⟨rfl, hb, ry⟩
theorem KT.keeps {H H' : Hp} {kvs : List (List Key × V)} {xs : List (List Key × Addr × Value)} (r : KT H kvs xs) (ht : ∀ b ys, H b = some (.tup ys) → H' b = some (.tup ys)) : KT H' kvs xs :=
  Paired.mapP r fun _ _ z => ⟨z.1, ht _ _ z.2.1, z.2.2⟩

section
variable {P : Program} {w : World} {H : Hp} {h : Heap} {a : Addr}
theorem rd_of {u : HO} (ok : HOk P w H h) (e : Rd H a u) : ObjOk P w H h a u := e.ok ok
theorem dk_rd {kvs : List (Key × V)} (ok : HOk P w H h) (e : Rd H a (.dK kvs)) : kvs.length ≤ sizeLine ∧ (a == sysModules) = false ∧ ∃ vs, KV kvs vs ∧ h.DictOf (mixKind P w) a vs :=
  show ObjOk P w H h a (.dK kvs) from rd_of ok e
theorem dk_of {kvs : List (Key × V)} (ok : HOk P w H h) (e : H a = some (.dK kvs)) : kvs.length ≤ sizeLine ∧ (a == sysModules) = false ∧ ∃ vs, KV kvs vs ∧ h.DictOf (mixKind P w) a vs := dk_rd ok (.inl e)
/-- a tracked tuple of ints and texts is a key -/
theorem key_of {ks : List Key} (ok : HOk P w H h) (e : H a = some (.tup (ks.map kV))) : (tupleKind (mixKind P w)).is h ks a := by
  obtain ⟨_, its, r, o, h1, h2, n, h3⟩ := (show ObjOk P w H h a (.tup (ks.map kV)) from ok a _ e)
  exact ⟨o, its.toArray, n, h1, h2, h3, by simpa using items_are r⟩
theorem dt_rd {kvs : List (List Key × V)} (ok : HOk P w H h) (e : Rd H a (.dT kvs)) : kvs.length ≤ sizeLine ∧ (a == sysModules) = false ∧
    ∃ xs, KT H kvs xs ∧ h.DictOfH (tupleKind (mixKind P w)) a xs := by
  obtain ⟨z, y, xs, r, o, es, ep, h1, h2, h3, h4, h5⟩ := (show ObjOk P w H h a (.dT kvs) from rd_of ok e)
  refine ⟨z, y, xs, r, o, es, ep, h1, h2, h3, h4, fun x hx => ?_, h5⟩
  have all : ∀ {l : List (List Key × V)} {m : List (List Key × Addr × Value)}, KT H l m → ∀ x ∈ m, (tupleKind (mixKind P w)).is h x.1 x.2.1 := by
    intro l m q
    induction q with
    | nil => intro x hx; exact nomatch hx
    | @cons p q ps qs hq t ih =>
      intro x hx
      rcases List.mem_cons.mp hx with e | hx
      · subst e
        exact key_of ok (by rw [← hq.1]; exact hq.2.1)
      · exact ih x hx
  exact all r x hx
theorem dt_of {kvs : List (List Key × V)} (ok : HOk P w H h) (e : H a = some (.dT kvs)) : kvs.length ≤ sizeLine ∧ (a == sysModules) = false ∧
    ∃ xs, KT H kvs xs ∧ h.DictOfH (tupleKind (mixKind P w)) a xs := dt_rd ok (.inl e)
end

/-- what the dict at a holds at the key y -/
def DGet (H : Hp) (a : Addr) (y : V) (r : Option V) : Prop :=
  (∃ kvs k, Rd H a (.dK kvs) ∧ y = kV k ∧ r = valV kvs k) ∨ ∃ kvs k b, Rd H a (.dT kvs) ∧ y = .ref b ∧ H b = some (.tup (k.map kV)) ∧ r = valV kvs k
/-- the heap behind a[y] = v -/
def DPut (H : Hp) (a : Addr) (y v : V) (H' : Hp) : Prop :=
  (∃ kvs k, H a = some (.dK kvs) ∧ y = kV k ∧ kvs.length < sizeLine ∧ H' = upd H a (.dK (putK kvs k v))) ∨
  ∃ kvs k b, H a = some (.dT kvs) ∧ y = .ref b ∧ H b = some (.tup (k.map kV)) ∧ kvs.length < sizeLine ∧ H' = upd H a (.dT (putK kvs k v))
theorem DGet.k {H : Hp} {a : Addr} {kvs : List (Key × V)} {k : Key} (e : H a = some (.dK kvs)) : DGet H a (kV k) (valV kvs k) := .inl ⟨kvs, k, .inl e, rfl, rfl⟩
theorem DGet.t {H : Hp} {a b : Addr} {kvs : List (List Key × V)} {k : List Key} (e : H a = some (.dT kvs)) (eb : H b = some (.tup (k.map kV))) : DGet H a (.ref b) (valV kvs k) := .inr ⟨kvs, k, b, .inl e, rfl, eb, rfl⟩
theorem DPut.k {H : Hp} {a : Addr} {kvs : List (Key × V)} {k : Key} {v : V} (e : H a = some (.dK kvs)) (hl : kvs.length < sizeLine) : DPut H a (kV k) v (upd H a (.dK (putK kvs k v))) := .inl ⟨kvs, k, e, rfl, hl, rfl⟩
theorem DPut.t {H : Hp} {a b : Addr} {kvs : List (List Key × V)} {k : List Key} {v : V} (e : H a = some (.dT kvs)) (eb : H b = some (.tup (k.map kV))) (hl : kvs.length < sizeLine) :
    DPut H a (.ref b) v (upd H a (.dT (putK kvs k v))) := .inr ⟨kvs, k, b, e, rfl, eb, hl, rfl⟩


section
variable {X : Cx} {pins : List (Addr × Obj)} {σ : St} {H : Hp} {s : Shared} {a : Addr} {y v : V} {u r : Value} {o : Option V} {A : Around} {E : Value → Shared → Prop}

theorem Inv.big (I : Inv X pins σ H s) : sysModules < s.heap.objs.size := by
  have h : mainGlobals < s.heap.objs.size := (I.mod.glob.keeps I.bk).lt
  exact Nat.lt_trans (by decide) h

/-- y in d -/
theorem d_in {Q : Value → Shared → Prop} (hu : A.units + 1 < cLine) (I : Inv X pins σ H s) (g : DGet H a y o) (ry : RelV y u) (h : ∀ s', Inv X pins σ H s' → Q (.bool o.isSome) s') :
    wpAny (model X.prog X.w) A (compareOp .In u (.ref a)) Q E s := by
  rcases g with ⟨kvs, k, e, ey, l⟩ | ⟨kvs, k, b, e, ey, eb, l⟩
  · subst ey
    obtain ⟨z, hd, vs, rel, dd⟩ := dk_rd I.hok e
    refine wpAny_in_of (kV_is ry) hd dd.mapOf ?_
    rw [← (rel.val k).isSome_eq, ← l]
    exact h _ (I.tok _)
  · subst ey
    cases (show u = Value.ref b from ry)
    obtain ⟨z, hd, xs, rel, dd⟩ := dt_rd I.hok e
    refine wpAny_in_heap (tupleKind_room_in1 hu) (key_of I.hok eb) hd dd ?_
    have q := (rel.val k).isSome_eq
    rw [Option.isSome_map] at q
    rw [← q, ← l]
    exact h _ (I.tok _)
/-- a dict's object is replaced -/
theorem d_write {h' : Heap} {t' : Nat} {ob : HO} (I : Inv X pins σ H s) (mu : Mut (H a)) (hs : Heap.SameBut a s.heap h') (he : ∃ q, h'.get? a = some q) (new : ObjOk X.prog X.w (upd H a ob) h' a ob) :
    Inv X pins σ (upd H a ob) { s with heap := h', toks := t' } :=
  I.write (x := a) (e := a) mu (.inl rfl) (fun b q hb z => (hs.2 b hb).trans z) he new
theorem dk_new {P : Program} {w : World} {H' : Hp} {h' : Heap} {kvs : List (Key × V)} {vs : List (Key × Value)} (z : kvs.length ≤ sizeLine) (hd : (a == sysModules) = false) (rel : KV kvs vs) (dd : h'.DictOf (mixKind P w) a vs) :
    ObjOk P w H' h' a (.dK kvs) := ⟨z, hd, vs, rel, dd⟩
/-- d[y] = v -/
theorem d_setItem {H' : Hp} {Q : Unit → Shared → Prop} (hu : A.units + 1 < cLine) (I : Inv X pins σ H s) (g : DPut H a y v H') (ry : RelV y u) (rv : RelV v r) (h : ∀ s', Inv X pins σ H' s' → Q () s') :
    wpAny (model X.prog X.w) A (setItem (.ref a) u r) Q E s := by
  rcases g with ⟨kvs, k, e, ey, l, eH⟩ | ⟨kvs, k, b, e, ey, eb, l, eH⟩
  · subst ey eH
    obtain ⟨z, hd, vs, rel, dd⟩ := dk_of I.hok e
    have hz : vs.length ≤ sizeLine := by rw [← rel.length]; exact z
    have hl : (putK kvs k v).length ≤ sizeLine := by have := length_putK kvs k v; omega
    refine wpAny_setItem_pairs (hsz := hz) (kV_is ry) dd fun h' dd' hs => h _ ?_
    have he : ∃ q, h'.get? a = some q := let ⟨q, _, _, hq, _⟩ := dd'; ⟨q, hq⟩
    exact d_write I (by rw [e]; exact True.intro) hs he (dk_new hl hd (rel.put k rv) dd')
  · subst ey eH
    cases (show u = Value.ref b from ry)
    obtain ⟨z, hd, xs, rel, dd⟩ := dt_of I.hok e
    have hz : xs.length ≤ sizeLine := by rw [← Paired.length rel]; exact z
    have hl : (putK kvs k v).length ≤ sizeLine := by have := length_putK kvs k v; omega
    refine wpAny_setItem_heap (hsz := hz) (tupleKind_room_in1 hu) (key_of I.hok eb) dd fun h' dd' hs => h _ ?_
    obtain ⟨q, es, ep, hq, h2, h3, h4, _, h5⟩ := dd'
    refine d_write I (by rw [e]; exact True.intro) hs ⟨q, hq⟩ ⟨hl, hd, _, (rel.put k eb rv).keeps fun c ys ec => ?_, q, es, ep, hq, h2, h3, h4, h5⟩
    rw [upd_ne (ne_of ec e (fun z => nomatch z))]
    exact ec
end

section
variable {X : Cx} {pins : List (Addr × Obj)} {σ : St} {H : Hp} {s : Shared} {a : Addr} {kvs : List (Key × V)} {k : Key} {u : Value} {A : Around} {E : Value → Shared → Prop}
/-- del d[k] -/
theorem d_delItem {Q : Unit → Shared → Prop} (I : Inv X pins σ H s) (e : H a = some (.dK kvs)) (ry : RelV (kV k) u) (l : (valV kvs k).isSome = true) (h : ∀ s', Inv X pins σ (upd H a (.dK (dropK kvs k))) s' → Q () s') :
    wpAny (model X.prog X.w) A (delItem (.ref a) u) Q E s := by
  obtain ⟨z, hd, vs, rel, dd⟩ := dk_of I.hok e
  refine wpAny_delItem_slot dd.typeIs (by decide) PySem.F.slot_dict_delitem
    (call_meetsIn PySem.F.slot_dict_delitem dd.typeIs PySem.F.entry_dict_delitem (PySem.F.args_dict_delitem_2 _ _) (meets_dict_delitem_pairs (mixKind X.prog X.w) a (kV_is ry)) ⟨vs, dd, by rw [← rel.length]; exact z, by rw [← (rel.val k).isSome_eq]; exact l, fun h' dd' hs => h _ ?_⟩)
  have he : ∃ q, h'.get? a = some q := let ⟨q, _, _, hq, _⟩ := dd'; ⟨q, hq⟩
  exact d_write I (by rw [e]; exact True.intro) hs he (dk_new (Nat.le_trans (dropK_le kvs k) z) hd (rel.drop k) dd')
end


/-! ### readings and rules -/
/-- y in d, y not in d -/
def tDIn (ty td : TE) : TE := fun σ H Q => ty σ H fun y H1 => td σ H1 fun x H2 => ∃ a o, x = .ref a ∧ DGet H2 a y o ∧ Q (.bl o.isSome) H2
/-- d[y] = v -/
def sDPut (td ty tv : TE) : TS := fun D σ H => tv σ H fun v H1 => td σ H1 fun x H2 => ty σ H2 fun y H3 => ∃ a H4, x = .ref a ∧ DPut H3 a y v H4 ∧ D.nx σ H4
/-- del d[y] -/
def sDDel (td ty : TE) : TS := fun D σ H => td σ H fun x H1 => ty σ H1 fun y H2 => ∃ a kvs k, x = .ref a ∧ H2 a = some (.dK kvs) ∧ y = kV k ∧ (valV kvs k).isSome = true ∧ D.nx σ (upd H2 a (.dK (dropK kvs k)))

section
variable {X : Cx} {o i e value : Expr} {pos pos' tpos : Pos} {td ty tv : TE}
theorem pc_din (hu : X.A.units + 1 < cLine) (hi : PE X i ty) (ho : PE X o td) : PC X .In i o (tDIn ty td) := by
  intro pins s σ H Q I h
  refine thn (hi pins s σ H _ I h) fun iv s1 ⟨y, H1, I1, ry, q1⟩ => thn (ho pins s1 σ H1 _ I1 q1) fun u s2 ⟨x, H2, I2, rx, a, ov, ex, g, q2⟩ => ?_
  subst ex
  obtain rfl : u = Value.ref a := rx
  exact d_in hu I2 g ry fun s3 I3 => ⟨.bl ov.isSome, H2, I3, rfl, q2⟩
theorem ps_dput (hu : X.A.units + 1 < cLine) (ho : PE X o td) (hi : PE X i ty) (hv : PE X value tv) (hs : swapsWith value (some (.Subscript o i pos')) pos.line X.env = pure false) :
    PS X (.Assign [.Subscript o i pos'] value pos) (sDPut td ty tv) := by
  intro pins s σ H D I h
  refine wpAny_Assign_Subscript (thn (hv pins s σ H _ I h) fun r s1 ⟨v, H1, I1, rv, q1⟩ => thn (ho pins s1 σ H1 _ I1 q1) fun u s2 ⟨x, H2, I2, rx, q2⟩ => thn (hi pins s2 σ H2 _ I2 q2) fun iv s3 ⟨y, H3, I3, ry, a, H4, ex, g, q3⟩ => ?_) hs
  subst ex
  obtain rfl : u = Value.ref a := rx
  exact d_setItem hu I3 g ry rv fun s4 I4 => ⟨σ, H4, I4, q3⟩
theorem ps_ddel (ho : PE X o td) (hi : PE X i ty) : PS X (.Delete [.Subscript o i tpos] pos) (sDDel td ty) := by
  intro pins s σ H D I h
  refine wpAny_Delete (wpAny_deleteEach_cons (wpAny_delete_Subscript (thn (ho pins s σ H _ I h) fun u s1 ⟨x, H1, I1, rx, q1⟩ => thn (hi pins s1 σ H1 _ I1 q1) fun iv s2 ⟨y, H2, I2, ry, a, kvs, k, ex, e, ey, l, q2⟩ => ?_)))
  subst ex ey
  obtain rfl : u = Value.ref a := rx
  exact d_delItem I2 e ry l fun s3 I3 => wpAny_deleteEach_nil ⟨σ, _, I3, q2⟩
end


/-! ### displays -/
section
variable {X : Cx} {pos : Pos}
end

/-! ### methods -/
/-- a method call o.m(e) of a built-in, with one argument: what must be seen of the text -/
structure M1 (X : Cx) (o : Expr) (m : Str) (apos : Pos) (e : Expr) (cpos : Pos) : Prop where
  base : attributeBase o m X.env (eval o X.env) = eval o X.env
  few : ((backTo cpos (starEach [e] X.env)).all (fun x => !x.1) && (backToKw cpos (keywordEach [] X.env)).all (fun x => x.1.isSome)
    && decide (([e] : List Expr).length + ([] : List Keyword).length + (if ([] : List Keyword).isEmpty then 0 else 1) < 30)) = true
  line : (apos.endLine == cpos.line) = true
  trees : backTo cpos (starEach [e] X.env) = [(false, eval e X.env)]
structure M2 (X : Cx) (o : Expr) (m : Str) (apos : Pos) (e f : Expr) (cpos : Pos) : Prop where
  base : attributeBase o m X.env (eval o X.env) = eval o X.env
  few : ((backTo cpos (starEach [e, f] X.env)).all (fun x => !x.1) && (backToKw cpos (keywordEach [] X.env)).all (fun x => x.1.isSome)
    && decide (([e, f] : List Expr).length + ([] : List Keyword).length + (if ([] : List Keyword).isEmpty then 0 else 1) < 30)) = true
  line : (apos.endLine == cpos.line) = true
  trees : backTo cpos (starEach [e, f] X.env) = [(false, eval e X.env), (false, eval f X.env)]

section
variable {X : Cx} {pins : List (Addr × Obj)} {σ : St} {H : Hp} {s : Shared} {a : Addr} {y d : V} {u r : Value} {o : Option V} {A : Around} {E : Value → Shared → Prop}
end

section
variable {X : Cx} {o e f : Expr} {apos cpos : Pos} {td ty tx : TE}
end

/-! ### dict(d): a copy -/
section
variable {X : Cx} {pins : List (Addr × Obj)} {σ : St} {H : Hp} {s : Shared} {a : Addr} {kvs : List (Key × V)} {A : Around} {E : Value → Shared → Prop}
end


section
variable {X : Cx} {pins : List (Addr × Obj)} {σ : St} {H : Hp} {s : Shared} {a : Addr} {y : V} {u : Value} {A : Around} {E : Value → Shared → Prop}
end
end L2
namespace L2
open PySem PySem.Spec PyProof.Rows
/-! ### a dict's pairs: keys that differ -/
section
variable {κ : Type} [DecidableEq κ]
theorem valV_not {kvs : List (κ × V)} {k : κ} (h : valV kvs k = none) : ¬ k ∈ kvs.map (·.1) := by
  intro m
  obtain ⟨p, hp, e⟩ := List.mem_map.mp m
  have q : (kvs.any fun kv => decide (kv.1 = k)) = true := List.any_eq_true.mpr ⟨p, hp, decide_eq_true e⟩
  rw [valV_any, h] at q
  exact absurd q (by simp)
theorem valV_in {kvs : List (κ × V)} {k : κ} {v : V} (h : valV kvs k = some v) : k ∈ kvs.map (·.1) := by
  have q : (kvs.any fun kv => decide (kv.1 = k)) = true := by
    rw [valV_any, h]
    all_goals rfl
  obtain ⟨p, hp, e⟩ := List.any_eq_true.mp q
  exact List.mem_map.mpr ⟨p, hp, of_decide_eq_true e⟩
end
end L2
end
section
/-! sorted(d) of a dict with int keys. -/
namespace L2
open PySem PySem.Spec PyProof.Rows
set_option maxHeartbeats 4000000
set_option maxRecDepth 100000
set_option Elab.async false
set_option linter.unusedVariables false
section
variable {X : Cx}
end
end L2
end
section
/-! isinstance(x, (list, tuple)); zip of two tuples or two lists, whichever. -/
namespace L2
open PySem PySem.Spec PyProof.Rows
set_option maxHeartbeats 4000000
set_option maxRecDepth 100000
set_option Elab.async false
set_option linter.unusedVariables false
section
variable {X : Cx} {pins : List (Addr × Obj)} {σ : St} {H : Hp} {s : Shared} {A : Around} {E : Value → Shared → Prop} {Q : Value → Shared → Prop}
end
section
variable {X : Cx}
/-- two things that are the same, n deep -/
def Sm (H : Hp) : Nat → V → V → Prop
  | 0, x, y => (x = y ∧ ((∃ i, x = .int i) ∨ (∃ b, x = .bl b) ∨ (∃ z, x = .str z) ∨ x = .non))
  | n + 1, x, y => (x = y ∧ ((∃ i, x = .int i) ∨ (∃ b, x = .bl b) ∨ (∃ z, x = .str z) ∨ x = .non)) ∨
    ∃ (a b : Addr) (xs ys : List V), x = .ref a ∧ y = .ref b ∧ ((H a = some (.tup xs) ∧ H b = some (.tup ys)) ∨ (H a = some (.lst xs) ∧ H b = some (.lst ys))) ∧ xs.length = ys.length ∧ xs.length ≤ 1000 ∧
      ∀ (i : Nat) (u v : V), xs[i]? = some u → ys[i]? = some v → Sm H n u v
theorem Sm.same {H H' : Hp} (s : Same H H') : ∀ {n : Nat} {x y : V}, Sm H n x y → Sm H' n x y
  | 0, _, _, h => h
  | n + 1, x, y, h => by
    rcases h with h | ⟨a, b, xs, ys, e1, e2, e3, e4, e5, e6⟩
    · exact .inl h
    · refine .inr ⟨a, b, xs, ys, e1, e2, ?_, e4, e5, fun i u v hu hv => (e6 i u v hu hv).same s⟩
      rcases e3 with ⟨p, q⟩ | ⟨p, q⟩
      · exact .inl ⟨s _ _ p, s _ _ q⟩
      · exact .inr ⟨s _ _ p, s _ _ q⟩
end
end L2
end
section
/-! dict(l) of a list of pairs. -/
namespace L2
open PySem PySem.Spec PyProof.Rows
set_option maxHeartbeats 4000000
set_option maxRecDepth 100000
set_option Elab.async false
set_option linter.unusedVariables false
theorem dl_entry : entryFor table "dict.update.loop" = some Builtin.«dict.update.loop» := entryFor_of_tree (by kernel_rfl)
theorem dl_plain : plainId "dict.update.loop" = true := by decide +kernel
section
variable {prog : Program} {w : World} {A : Around} {R : Result → Shared → Prop}
/-- how far the loop has come -/
structure DL (prog : Program) (w : World) (l it d : Addr) (vs : List Value) (kvs : List (Key × Value)) (i : Nat) (h : Heap) : Prop where
  po : h.IsListIter it l i
  ls : h.IsList l vs.toArray
  dt : h.DictOf (mixKind prog w) d (kvs.take i)
  pr : ∀ (j : Nat) (v : Value), vs[j]? = some v → ∃ (p : Addr) (k : Key) (key x : Value), v = Value.ref p ∧ IsTup h p #[key, x] ∧ kvs[j]? = some (k, x) ∧ (mixKind prog w).is k key = true
theorem cls_ne {h : Heap} {a b : Addr} {o o' : Obj} {T U : String} (e : h.get? a = some o) (e' : h.get? b = some o') (c : o.cls = .type T) (c' : o'.cls = .type U) (n : T ≠ U) : a ≠ b := fun z => by
  rw [z, e'] at e
  cases e
  rw [c] at c'
  injection c' with z
  exact n z
theorem DL.ne {l it d : Addr} {vs : List Value} {kvs : List (Key × Value)} {i : Nat} {h : Heap} (D : DL prog w l it d vs kvs i h) : d ≠ it := by
  obtain ⟨o, es, ep, ho, ⟨hc, _⟩, _⟩ := D.dt
  obtain ⟨o', ho', hc', _⟩ := D.po
  exact cls_ne ho ho' hc hc' (by decide)
theorem DL.tupAt {l it d : Addr} {vs : List Value} {kvs : List (Key × Value)} {i : Nat} {h h' : Heap} {p : Addr} {xs : Array Value} (D : DL prog w l it d vs kvs i h) (sb : Heap.SameBut it h h') (t : IsTup h p xs) : IsTup h' p xs := by
  obtain ⟨o, ho, hc, r⟩ := t
  obtain ⟨o', ho', hc', _⟩ := D.po
  exact ⟨o, sb.extBut _ _ (cls_ne ho ho' hc hc' (by decide)) ho, hc, r⟩
theorem tup_past {d : Addr} {h h' : Heap} {p : Addr} {xs : Array Value} {kvs : List (Key × Value)} (D : h.DictOf (mixKind prog w) d kvs) (sb : Heap.SameBut d h h') (t : IsTup h p xs) : IsTup h' p xs := by
  obtain ⟨o, ho, hc, r⟩ := t
  obtain ⟨o', es, ep, ho', ⟨hc', _⟩, _⟩ := D
  exact ⟨o, sb.extBut _ _ (cls_ne ho ho' hc hc' (by decide)) ho, hc, r⟩
theorem DL.dictAt {l it d : Addr} {vs : List Value} {kvs : List (Key × Value)} {i : Nat} {h h' : Heap} (D : DL prog w l it d vs kvs i h) (sb : Heap.SameBut it h h') : h'.DictOf (mixKind prog w) d (kvs.take i) := by
  have ne := D.ne
  obtain ⟨o, es, ep, ho, r⟩ := D.dt
  exact ⟨o, es, ep, sb.extBut _ _ ne ho, r⟩
theorem stored_next {kvs : List (Key × Value)} {i : Nat} {k : Key} {x : Value} (nd : (kvs.map (·.1)).Nodup) (e : kvs[i]? = some (k, x)) : stored (kvs.take i) k x = kvs.take (i + 1) := by
  unfold stored
  have hi : i < kvs.length := (List.getElem?_eq_some_iff.mp e).1
  have ge : kvs[i] = (k, x) := (List.getElem?_eq_some_iff.mp e).2
  rw [if_neg, List.take_succ, e]
  · rfl
  · intro z
    obtain ⟨kv, hm, hk⟩ := List.any_eq_true.mp z
    have hk' : kv.1 = k := of_decide_eq_true hk
    obtain ⟨j, hj, ej⟩ := List.getElem_of_mem hm
    rw [List.length_take] at hj
    rw [List.getElem_take] at ej
    have := (List.pairwise_iff_getElem.mp nd) j i (by rw [List.length_map]; omega) (by rw [List.length_map]; exact hi) (by omega)
    apply this
    rw [List.getElem_map, List.getElem_map, ej, ge]
    exact hk'
end
end L2
end
section
namespace L2
open PySem PySem.Spec PyProof.Rows
set_option maxHeartbeats 4000000
set_option maxRecDepth 100000
set_option Elab.async false
set_option linter.unusedVariables false
section
variable {prog : Program} {w : World} {A : Around} {s : Shared} {R : Result → Shared → Prop}
end
section
variable {X : Cx}
theorem pairs_of {pins : List (Addr × Obj)} {σ : St} {H : Hp} {s : Shared} (I : Inv X pins σ H s) : ∀ (ps : List V) (its : List Value) (kvs : List (Int × V)), Vals ps its → ps.length = kvs.length →
    (∀ (j : Nat) (v : V), ps[j]? = some v → ∃ (p : Addr) (k : Int) (x : V), v = .ref p ∧ H p = some (.tup [.int k, x]) ∧ kvs[j]? = some (k, x)) →
    ∃ kvs' : List (Key × Value), KV (kvs.map fun kv => ((Sum.inl kv.1 : Key), kv.2)) kvs' ∧ ∀ (j : Nat) (v : Value), its[j]? = some v → ∃ (p : Addr) (k : Key) (key x : Value), v = Value.ref p ∧ IsTup s.heap p #[key, x] ∧ kvs'[j]? = some (k, x) ∧ (mixKind X.prog X.w).is k key = true
  | [], its, kvs, rv, hl, _ => by
    cases rv
    cases kvs with
    | nil => exact ⟨[], .nil, fun j v h => by cases h⟩
    | cons _ _ => cases hl
  | v :: ps, its, kvs, rv, hl, hp => by
    cases rv with
    | @cons _ u _ us r0 r1 =>
      cases kvs with
      | nil => cases hl
      | cons kv kvs =>
        obtain ⟨kvs', a1, a2⟩ := pairs_of I ps us kvs r1 (by simpa using hl) fun j v h => hp (j + 1) v h
        obtain ⟨p, k, x, rfl, ht, ek⟩ := hp 0 v rfl
        have ek' : kv = (k, x) := by simpa using ek
        subst ek'
        obtain ⟨_, its2, rv2, tp⟩ := (show ObjOk X.prog X.w H s.heap p (.tup [.int k, x]) from I.hok p _ ht)
        obtain ⟨key, x', rfl, rk, rx⟩ := vals2 rv2
        cases (show u = Value.ref p from r0)
        refine ⟨(Sum.inl k, x') :: kvs', .cons ⟨rfl, rx⟩ a1, fun j v h => ?_⟩
        cases j with
        | zero =>
          have : v = Value.ref p := by simpa using h.symm
          exact ⟨p, Sum.inl k, key, x', this, tp, rfl, kV_is (k := Sum.inl k) rk⟩
        | succ j => exact a2 j v h
end
end L2
end
section
/-! Ball by ball: each to the next box that is empty. -/
namespace BB
/-- the first place from x on that is none of R's -/
def nx : Int → List Int → Int
  | x, [] => x
  | x, q :: R => if q < x then nx x R else if q = x then nx (x + 1) R else x
theorem nx_past {x q : Int} {R : List Int} (h : q < x) : nx x (q :: R) = nx x R := by
  show (if q < x then nx x R else _) = _
  rw [if_pos h]
theorem nx_ge : ∀ (R : List Int) (x : Int), x ≤ nx x R
  | [], x => Int.le_refl x
  | q :: R, x => by
    unfold nx
    split
    · exact nx_ge R x
    · split
      · have := nx_ge R (x + 1); omega
      · exact Int.le_refl x
theorem nx_not : ∀ (R : List Int) (x : Int), R.Pairwise (· < ·) → nx x R ∉ R
  | [], _, _ => by simp
  | q :: R, x, up => by
    obtain ⟨u1, u2⟩ := List.pairwise_cons.mp up
    unfold nx
    split
    · intro z
      rcases List.mem_cons.mp z with z | z
      · have := nx_ge R x; omega
      · exact nx_not R x u2 z
    · split
      · intro z
        rcases List.mem_cons.mp z with z | z
        · have := nx_ge R (x + 1); omega
        · exact nx_not R (x + 1) u2 z
      · intro z
        rcases List.mem_cons.mp z with z | z
        · omega
        · have := u1 x z; omega
theorem nx_mid : ∀ (R : List Int) (x y : Int), x ≤ y → y < nx x R → y ∈ R
  | [], x, y, h1, h2 => by unfold nx at h2; omega
  | q :: R, x, y, h1, h2 => by
    unfold nx at h2
    split at h2
    · exact List.mem_cons_of_mem _ (nx_mid R x y h1 h2)
    · split at h2
      · by_cases e : y = q
        · rw [e]; exact List.mem_cons_self ..
        · exact List.mem_cons_of_mem _ (nx_mid R (x + 1) y (by omega) h2)
      · omega
/-- the first n places from b on that are none of R's -/
def emp : Nat → Int → List Int → List Int
  | 0, _, _ => []
  | n + 1, b, R => nx b R :: emp n (nx b R + 1) R
/-- and the one behind them -/
def gy : Nat → Int → List Int → Int
  | 0, b, R => nx b R
  | n + 1, b, R => gy n (nx b R + 1) R
theorem emp_gy : ∀ (n : Nat) (b : Int) (R : List Int), emp (n + 1) b R = emp n b R ++ [gy n b R]
  | 0, _, _ => rfl
  | n + 1, b, R => by
    show nx b R :: emp (n + 1) (nx b R + 1) R = nx b R :: (emp n (nx b R + 1) R ++ [gy n (nx b R + 1) R])
    rw [emp_gy n]
theorem gy_ge : ∀ (n : Nat) (b : Int) (R : List Int), b ≤ gy n b R
  | 0, b, R => nx_ge R b
  | n + 1, b, R => by
    have := gy_ge n (nx b R + 1) R
    have := nx_ge R b
    show b ≤ gy n (nx b R + 1) R
    omega
theorem gy_not : ∀ (n : Nat) (b : Int) (R : List Int), R.Pairwise (· < ·) → gy n b R ∉ R
  | 0, b, R, up => nx_not R b up
  | n + 1, b, R, up => gy_not n _ R up
theorem emp_lt : ∀ (n : Nat) (b : Int) (R : List Int) (x : Int), x ∈ emp n b R → b ≤ x ∧ x < gy n b R
  | 0, _, _, x, h => by cases h
  | n + 1, b, R, x, h => by
    have g := gy_ge n (nx b R + 1) R
    have e := nx_ge R b
    rcases List.mem_cons.mp (show x ∈ nx b R :: emp n (nx b R + 1) R from h) with rfl | h
    · exact ⟨e, show nx b R < gy n (nx b R + 1) R by omega⟩
    · have := emp_lt n _ R x h
      exact ⟨by omega, this.2⟩
theorem gy_mid : ∀ (n : Nat) (b : Int) (R : List Int) (z : Int), b ≤ z → z < gy n b R → z ∈ R ∨ z ∈ emp n b R
  | 0, b, R, z, h1, h2 => .inl (nx_mid R b z h1 h2)
  | n + 1, b, R, z, h1, h2 => by
    by_cases c : z < nx b R
    · exact .inl (nx_mid R b z h1 c)
    · by_cases d : z = nx b R
      · exact .inr (by rw [d]; exact List.mem_cons_self ..)
      · rcases gy_mid n (nx b R + 1) R z (by omega) h2 with h | h
        · exact .inl h
        · exact .inr (List.mem_cons_of_mem _ h)
theorem emp_past {p : Int} {r : List Int} : ∀ (n : Nat) (z : Int), p < z → emp n z (p :: r) = emp n z r
  | 0, _, _ => rfl
  | n + 1, z, h => by
    show nx z (p :: r) :: emp n (nx z (p :: r) + 1) (p :: r) = nx z r :: emp n (nx z r + 1) r
    rw [nx_past h, emp_past n _ (by have := nx_ge r z; omega)]
theorem emp_on {p : Int} {r : List Int} : ∀ (n : Nat), emp n p (p :: r) = emp n (p + 1) r
  | 0 => rfl
  | n + 1 => by
    have e : nx p (p :: r) = nx (p + 1) r := by
      show (if p < p then nx p r else if p = p then nx (p + 1) r else p) = _
      rw [if_neg (by omega), if_pos rfl]
    show nx p (p :: r) :: emp n (nx p (p :: r) + 1) (p :: r) = nx (p + 1) r :: emp n (nx (p + 1) r + 1) r
    rw [e, emp_past n _ (by have := nx_ge r (p + 1); omega)]
theorem emp_cut {p : Int} {r : List Int} : ∀ (L : Nat) (box : Int), box ≤ p → emp L box (p :: r) = row box (min L (p - box).toNat) ++ emp (L - min L (p - box).toNat) (p + 1) r
  | 0, box, _ => by rw [Nat.zero_min]; rfl
  | L + 1, box, h => by
    by_cases c : box = p
    · subst c
      rw [Int.sub_self, show min (L + 1) (0 : Int).toNat = 0 from Nat.min_zero _, row_zero, List.nil_append, Nat.sub_zero]
      exact emp_on (L + 1)
    · have e : nx box (p :: r) = box := by
        unfold nx
        rw [if_neg (by omega), if_neg (by omega)]
      show nx box (p :: r) :: emp L (nx box (p :: r) + 1) (p :: r) = _
      rw [e, emp_cut L (box + 1) (by omega)]
      have em : min (L + 1) (p - box).toNat = min L (p - (box + 1)).toNat + 1 := by omega
      rw [em, row_succ, show L + 1 - (min L (p - (box + 1)).toNat + 1) = L - min L (p - (box + 1)).toNat by omega]
      rfl
theorem emp_nil : ∀ (L : Nat) (box : Int), emp L box [] = row box L
  | 0, _ => rfl
  | L + 1, box => by
    rw [row_succ]
    show box :: emp L (box + 1) [] = _
    rw [emp_nil L]
theorem mem_row {lo : Int} {n : Nat} {x : Int} (h : x ∈ row lo n) : lo ≤ x ∧ x < lo + (n : Int) := by
  unfold row at h
  obtain ⟨k, hk, rfl⟩ := List.mem_map.mp h
  have := List.mem_range.mp hk
  omega
/-- how the boxes stand while the balls R are still to go -/
structure At (z : Nat) (all R bh ks : List Int) (L : Nat) (box : Int) : Prop where
  eq : bh ++ sp z L box R = step z all
  cnt : bh.length + L + R.length = z
  lo : ∀ x ∈ bh, x < box
  ge : ∀ x ∈ R, box ≤ x
  up : R.Pairwise (· < ·)
  mem : ∀ x, x ∈ ks ↔ x ∈ bh ∨ x ∈ emp L box R ∨ x ∈ R
theorem At.go {z : Nat} {all r bh ks ks' : List Int} {L : Nat} {box p : Int} (h : At z all (p :: r) bh ks L box)
    (hk : ∀ x, x ∈ ks' ↔ (x ∈ ks ∧ x ≠ p) ∨ x = gy (L - min L (p - box).toNat) (p + 1) r) :
    ∃ bh' L', At z all r bh' ks' L' (p + 1) := by
  obtain ⟨u1, u2⟩ := List.pairwise_cons.mp h.up
  have hb := h.ge p (List.mem_cons_self ..)
  have hc := h.cnt
  rw [List.length_cons] at hc
  have lz : L - min L (p - box).toNat < z := by omega
  have e := h.eq
  unfold sp at e
  rw [if_pos lz, ← List.append_assoc] at e
  refine ⟨bh ++ row box (min L (p - box).toNat), L - min L (p - box).toNat + 1, e, ?_, fun x hx => ?_, fun x hx => ?_, u2, fun x => ?_⟩
  · rw [List.length_append, show (row box (min L (p - box).toNat)).length = min L (p - box).toNat by unfold row; rw [List.length_map, List.length_range]]
    omega
  · rcases List.mem_append.mp hx with w | w
    · have := h.lo x w; omega
    · have := mem_row w; omega
  · have := u1 x hx; omega
  · rw [hk x, h.mem x, emp_cut L box hb, emp_gy]
    have np : ∀ w, w ∈ bh ++ row box (min L (p - box).toNat) → w ≠ p := fun w hw => by
      rcases List.mem_append.mp hw with v | v
      · have := h.lo w v; omega
      · have := mem_row v; omega
    have ne : ∀ w, w ∈ emp (L - min L (p - box).toNat) (p + 1) r → w ≠ p := fun w hw => by have := emp_lt _ _ _ _ hw; omega
    have nr : ∀ w, w ∈ r → w ≠ p := fun w hw => by have := u1 w hw; omega
    simp only [List.mem_append, List.mem_cons, List.mem_singleton, List.not_mem_nil, or_false]
    constructor
    · rintro (⟨h1 | (h1 | h1) | h1 | h1, h2⟩ | h1)
      · exact .inl (.inl h1)
      · exact .inl (.inr h1)
      · exact .inr (.inl (.inl h1))
      · exact absurd h1 h2
      · exact .inr (.inr h1)
      · exact .inr (.inl (.inr h1))
    · rintro ((h1 | h1) | (h1 | h1) | h1)
      · exact .inl ⟨.inl h1, np x (List.mem_append_left _ h1)⟩
      · exact .inl ⟨.inr (.inl (.inl h1)), np x (List.mem_append_right _ h1)⟩
      · exact .inl ⟨.inr (.inl (.inr h1)), ne x h1⟩
      · exact .inr h1
      · exact .inl ⟨.inr (.inr (.inr h1)), nr x h1⟩
/-- from the ball's next box on, all is taken up to the one it goes to, and that is free -/
theorem At.here {z : Nat} {all r bh ks : List Int} {L : Nat} {box p : Int} (h : At z all (p :: r) bh ks L box) (x : Int) (hx : p + 1 ≤ x) (hx2 : x ≤ gy (L - min L (p - box).toNat) (p + 1) r) :
    x ∈ ks ↔ x < gy (L - min L (p - box).toNat) (p + 1) r := by
  obtain ⟨u1, u2⟩ := List.pairwise_cons.mp h.up
  have hb := h.ge p (List.mem_cons_self ..)
  rw [h.mem x, emp_cut L box hb]
  simp only [List.mem_append, List.mem_cons]
  constructor
  · rintro (h1 | (h1 | h1) | h1 | h1)
    · have := h.lo x h1; omega
    · have := mem_row h1; omega
    · exact (emp_lt _ _ _ _ h1).2
    · omega
    · by_cases c : x = gy (L - min L (p - box).toNat) (p + 1) r
      · exact absurd (by rw [← c]; exact h1) (gy_not (L - min L (p - box).toNat) (p + 1) r u2)
      · omega
  · intro h1
    rcases gy_mid _ _ _ _ hx h1 with w | w
    · exact .inr (.inr (.inr w))
    · exact .inr (.inl (.inr w))
theorem At.done {z : Nat} {all bh ks : List Int} {L : Nat} {box : Int} (h : At z all [] bh ks L box) (x : Int) : x ∈ ks ↔ x ∈ step z all := by
  rw [h.mem x, ← h.eq, emp_nil]
  show x ∈ bh ∨ x ∈ row box L ∨ x ∈ [] ↔ x ∈ bh ++ row box L
  rw [List.mem_append]
  constructor
  · rintro (h1 | h1 | h1)
    · exact .inl h1
    · exact .inr h1
    · cases h1
  · rintro (h1 | h1)
    · exact .inl h1
    · exact .inr (.inl h1)
theorem At.start {all ks : List Int} (up : all.Pairwise (· < ·)) (hk : ∀ x, x ∈ ks ↔ x ∈ all) : At all.length all all [] ks 0 (all.headD 0) := by
  refine ⟨rfl, by simp, fun x hx => (by cases hx), fun x hx => ?_, up, fun x => ?_⟩
  · cases all with
    | nil => cases hx
    | cons p r =>
      rcases List.mem_cons.mp hx with rfl | hx
      · exact Int.le_refl _
      · exact Int.le_of_lt ((List.pairwise_cons.mp up).1 x hx)
  · rw [hk x]
    show x ∈ all ↔ x ∈ [] ∨ x ∈ [] ∨ x ∈ all
    simp
end BB
end
section
/-! Comprehensions of new tuples; a dict's int keys. -/
namespace L2
open PySem PySem.Spec PyProof.Rows
set_option maxHeartbeats 4000000
set_option Elab.async false
set_option linter.unusedVariables false
structure Nb3 (mg : Str → Option Value) : Prop extends Nb2 mg where
  dict : mg "dict" = none
  sorted : mg "sorted" = none
theorem hu1 {k : Nat} {A : Around} (r : Room k A) : A.units + 1 < cLine := by have := r.units; omega
theorem comp_tups {J : It} {g : TG} {te : TE} {Q : VK} {D : Addr} {H1 : Hp} {σ0 : St} (n : Nat) (hn : n ≤ sizeLine) (f : Nat → List V) (Sg : St → Prop) (itm : Nat → Hp → V → Prop) (hD : H1 D = none) (s0 : Sg σ0)
    (items : ∀ i H, Same H1 H → (i < n → J.go i H ∧ ∀ x H2, J.yld i H x H2 → Same H H2 ∧ itm i H2 x) ∧ (n ≤ i → J.stop i H))
    (step : ∀ i x σ' H, i < n → Same H1 H → itm i H x → Sg σ' → ∀ R : St → V → Hp → Prop, (∀ σ3 p H5, Sg σ3 → Same H H5 → H5 p = some (.tup (f i)) → R σ3 (.ref p) H5) → g x σ' H fun σ3 H3 => te σ3 H3 (R σ3))
    (fin : ∀ H' ys, Same H1 H' → H' D = some (.lst ys) → ys.length = n → (∀ (j : Nat) (y : V), ys[j]? = some y → ∃ p, y = .ref p ∧ H' p = some (.tup (f j))) → Q (.ref D) H') :
    cmpW J g tYes te Q D σ0 H1 := by
  refine ⟨fun i m σ H => m = n - i ∧ i ≤ n ∧ Sg σ ∧ Same H1 H ∧ ∃ ys, H D = some (.lst ys) ∧ ys.length = i ∧ ∀ (j : Nat) (y : V), ys[j]? = some y → ∃ p, y = .ref p ∧ H p = some (.tup (f j)), ⟨n, by omega, Nat.zero_le _, s0, (Same.refl H1).upd_free hD _, [], upd_same, rfl, fun j y h => by cases h⟩, ?_⟩
  rintro i m σ H ⟨rfl, hi, hs, sm, ys, hd, hl, hy⟩
  by_cases hlt : i < n
  · obtain ⟨go, yl⟩ := (items i H sm).1 hlt
    refine .inr ⟨go, fun x H2 y => ?_⟩
    obtain ⟨s2, im⟩ := yl x H2 y
    have key := step i x σ H2 hlt (sm.trans s2) im hs (fun σ3 y H5 => ∃ ys, H5 D = some (.lst ys) ∧ ys.length < sizeLine ∧ ∃ m', m' < n - i ∧ (m' = n - (i + 1) ∧ i + 1 ≤ n ∧ Sg σ3 ∧ Same H1 (upd H5 D (.lst (ys ++ [y]))) ∧ ∃ zs, (upd H5 D (.lst (ys ++ [y]))) D = some (.lst zs) ∧ zs.length = i + 1 ∧ ∀ (j : Nat) (u : V), zs[j]? = some u → ∃ p, u = .ref p ∧ (upd H5 D (.lst (ys ++ [y]))) p = some (.tup (f j)))) fun σ3 p H5 g3 s5 ep => by
      refine ⟨ys, s5 _ _ (s2 _ _ hd), by omega, n - (i + 1), by omega, rfl, by omega, g3, (sm.trans (s2.trans s5)).upd_free hD _, ys ++ [.ref p], upd_same, by rw [List.length_append, List.length_singleton, hl], fun j u hu => ?_⟩
      have dd := s5 _ _ (s2 _ _ hd)
      by_cases c : j < ys.length
      · rw [List.getElem?_append_left c] at hu
        obtain ⟨p', e1, e2⟩ := hy j u hu
        have e3 := s5 _ _ (s2 _ _ e2)
        exact ⟨p', e1, by rw [upd_ne (ne_of e3 dd (by intro z; cases z))]; exact e3⟩
      · have ej : j = i := by
          have := (List.getElem?_eq_some_iff.mp hu).1
          rw [List.length_append, List.length_singleton] at this
          omega
        subst ej
        rw [List.getElem?_append_right (by omega), hl, Nat.sub_self] at hu
        have eu : u = .ref p := by simpa using hu.symm
        exact ⟨p, eu, by rw [upd_ne (ne_of ep dd (by intro z; cases z))]; exact ep⟩
    have e : (fun (σ3 : St) (H3 : Hp) => te σ3 H3 fun y H5 => ∃ ys, H5 D = some (.lst ys) ∧ ys.length < sizeLine ∧ ∃ m', m' < n - i ∧ (m' = n - (i + 1) ∧ i + 1 ≤ n ∧ Sg σ3 ∧ Same H1 (upd H5 D (.lst (ys ++ [y]))) ∧ ∃ zs, (upd H5 D (.lst (ys ++ [y]))) D = some (.lst zs) ∧ zs.length = i + 1 ∧ ∀ (j : Nat) (u : V), zs[j]? = some u → ∃ p, u = .ref p ∧ (upd H5 D (.lst (ys ++ [y]))) p = some (.tup (f j)))) =
        fun (σ3 : St) (H3 : Hp) => tYes σ3 H3 fun ok H4 => if ok = true then te σ3 H4 fun y H5 => ∃ ys, H5 D = some (.lst ys) ∧ ys.length < sizeLine ∧ ∃ m', m' < n - i ∧ (m' = n - (i + 1) ∧ i + 1 ≤ n ∧ Sg σ3 ∧ Same H1 (upd H5 D (.lst (ys ++ [y]))) ∧ ∃ zs, (upd H5 D (.lst (ys ++ [y]))) D = some (.lst zs) ∧ zs.length = i + 1 ∧ ∀ (j : Nat) (u : V), zs[j]? = some u → ∃ p, u = .ref p ∧ (upd H5 D (.lst (ys ++ [y]))) p = some (.tup (f j)))
          else ∃ m', m' < n - i ∧ (m' = n - (i + 1) ∧ i + 1 ≤ n ∧ Sg σ3 ∧ Same H1 H4 ∧ ∃ zs, H4 D = some (.lst zs) ∧ zs.length = i + 1 ∧ ∀ (j : Nat) (u : V), zs[j]? = some u → ∃ p, u = .ref p ∧ H4 p = some (.tup (f j))) := by
      funext σ3 H3
      unfold tYes
      dsimp only
      rw [if_pos rfl]
    rw [← e]
    exact key
  · have e : i = n := by omega
    subst e
    exact .inl ⟨(items i H sm).2 (Nat.le_refl _), fin H ys sm hd hl hy⟩
/-! a dict's int keys -/
abbrev KI (kvs : List (Key × V)) (ks : List Int) : Prop := kvs.map (·.1) = ks.map Sum.inl
theorem ki_mem {kvs : List (Key × V)} {ks : List Int} (h : KI kvs ks) (x : Int) : (valV kvs (Sum.inl x)).isSome = decide (x ∈ ks) := by
  cases e : valV kvs (Sum.inl x) with
  | none =>
    have := valV_not e
    rw [h] at this
    rw [decide_eq_false fun z => this (List.mem_map.mpr ⟨x, z, rfl⟩)]
    rfl
  | some v =>
    have := valV_in e
    rw [h] at this
    obtain ⟨y, hy, ey⟩ := List.mem_map.mp this
    have : y = x := Sum.inl.inj ey
    rw [decide_eq_true (by rw [← this]; exact hy)]
    rfl
end L2
end
section
/-! Lists of ints held side by side, as long as one another. -/
namespace L2
open PySem PySem.Spec PyProof.Rows
set_option maxHeartbeats 4000000
set_option Elab.async false
set_option linter.unusedVariables false
section
variable {X : Cx}
end
end L2
end
section
/-! How many balls a carrier takes. -/
namespace BB
def tkn (z : Nat) : Nat → Int → List Int → Nat
  | _, _, [] => 0
  | L, box, p :: r => if L - min L (p - box).toNat < z then tkn z (L - min L (p - box).toNat + 1) (p + 1) r + 1 else tkn z (L - min L (p - box).toNat) (p + 1) r
theorem less_min (m t : Nat) : m - min m t = m - t := by
  rcases Nat.le_total m t with z | z
  · rw [Nat.min_eq_left z, Nat.sub_self, Nat.sub_eq_zero_of_le z]
  · rw [Nat.min_eq_right z]
theorem tkn_gap {z L : Nat} {lo : Int} {R : List Int} (h : ∀ p ∈ R, lo + 1 ≤ p) : tkn z L lo R = tkn z (L - 1) (lo + 1) R := by
  cases R with
  | nil => rfl
  | cons p r =>
    have hp := h p (List.mem_cons_self ..)
    obtain ⟨n, e⟩ : ∃ n : Nat, p - (lo + 1) = (n : Int) := Int.eq_ofNat_of_zero_le (Int.sub_nonneg_of_le hp)
    have e2 : p - lo = ((n + 1 : Nat) : Int) := by omega
    unfold tkn
    rw [e, e2, Int.toNat_natCast, Int.toNat_natCast, less_min, less_min, Nat.sub_sub, Nat.add_comm 1 n]
theorem tkn_free {z : Nat} {box box' : Int} : ∀ {r : List Int}, tkn z 0 box r = tkn z 0 box' r
  | [] => rfl
  | p :: r => by
    unfold tkn
    rw [Nat.zero_min, Nat.zero_min]
def taken (z : Nat) (r : List Int) : Nat := tkn z 0 (r.headD 0) r
/-- box by box: what lies there, what is carried, what is still to come -/
structure By (z : Nat) (all R fo : List Int) (L t : Nat) (x : Int) : Prop where
  eq : fo ++ sp z L x R = step z all
  tk : t + tkn z L x R = taken z all
  ge : L ≠ 0 → ∀ p ∈ R, x ≤ p
  up : R.Pairwise (· < ·)
  le : L ≤ z
theorem By.start (z : Nat) {all : List Int} (up : all.Pairwise (· < ·)) (x : Int) : By z all all [] 0 0 x :=
  ⟨by rw [List.nil_append]; exact sp_free, by rw [Nat.zero_add]; exact tkn_free, fun h => absurd rfl h, up, Nat.zero_le z⟩
theorem By.take {z : Nat} {all r fo : List Int} {L t : Nat} {x : Int} (h : By z all (x :: r) fo L t x) (hl : L ≠ z) : By z all r fo (L + 1) (t + 1) (x + 1) := by
  obtain ⟨u1, u2⟩ := List.pairwise_cons.mp h.up
  have lz : L < z := by have := h.le; omega
  have e := h.eq
  have k := h.tk
  unfold sp at e
  unfold tkn at k
  have em : min L (x - x).toNat = 0 := by rw [Int.sub_self]; exact Nat.min_zero L
  rw [em, row_zero, List.nil_append, Nat.sub_zero, if_pos lz] at e
  rw [em, Nat.sub_zero, if_pos lz] at k
  exact ⟨e, by omega, fun _ p hp => by have := u1 p hp; omega, u2, lz⟩
theorem By.lay {z : Nat} {all R fo : List Int} {L t : Nat} {x : Int} (h : By z all R fo L t x) (hl : 0 < L) (hx : x ∉ R) : By z all R (fo ++ [x]) (L - 1) t (x + 1) := by
  have hg : ∀ p ∈ R, x + 1 ≤ p := fun p hp => by
    have := h.ge (by omega) p hp
    have ne : p ≠ x := fun z => hx (by rw [← z]; exact hp)
    omega
  have e := h.eq
  have k := h.tk
  rw [sp_gap hg, if_pos hl] at e
  rw [tkn_gap hg] at k
  exact ⟨by rw [List.append_assoc]; exact e, k, fun _ => hg, h.up, by have := h.le; omega⟩
theorem By.done {z : Nat} {all fo : List Int} {t : Nat} {x : Int} (h : By z all [] fo 0 t x) : fo = step z all ∧ t = taken z all := by
  have e := h.eq
  have k := h.tk
  constructor
  · rw [← e]
    show fo = fo ++ row x 0
    rw [row_zero, List.append_nil]
  · rw [← k]
    rfl
end BB
end
section
/-! l != []. -/
namespace L2
open PySem PySem.Spec PyProof.Rows
set_option maxHeartbeats 4000000
set_option Elab.async false
set_option linter.unusedVariables false
section
variable {X : Cx}
end
end L2
end
section
/-! f-strings of texts and small ints. -/
namespace L2
open PySem PySem.Spec PyProof.Rows
set_option maxHeartbeats 4000000
set_option Elab.async false
set_option linter.unusedVariables false
abbrev TJ := Str → St → Hp → VK → Prop
section
variable {X : Cx} {e : Expr} {es : List Expr} {te : TE} {t : TJ} {pos : Pos}
end
end L2
end
section
/-! An exception in flight, by the layer's own heap: what the library keeps of a base, kept of a base that is chosen for each step: the heap itself without the exception, its traceback and the frames. -/
namespace L2
open PySem PySem.Spec PyProof.Rows
set_option maxHeartbeats 4000000
set_option Elab.async false
set_option linter.unusedVariables false

/-! ### a heap without some of its objects -/
def lessOf : List Addr → Heap → Heap
  | [], h => h
  | a :: S, h => (lessOf S h).update a fun o => { o with data := .freed }
theorem less_out : ∀ {S : List Addr} {h : Heap} {b : Addr}, b ∉ S → (lessOf S h).get? b = h.get? b
  | [], _, _, _ => rfl
  | a :: S, h, b, hb => by
    show ((lessOf S h).update a _).get? b = _
    rw [Heap.get?_update_other _ _ fun z => hb (by rw [z]; exact List.mem_cons_self), less_out fun z => hb (List.mem_cons_of_mem _ z)]
/-! ### in flight -/
/-- the exception at e with its traceback at T -/
def Trc (h : Heap) (e T : Addr) (cls : Value) : Prop :=
  ∃ oe vs oT ts a0, h.get? e = some oe ∧ oe.cls = cls ∧ vs[0]? = some a0 ∧ oe.data = .fields vs ∧ vs[1]? = some (.ref T) ∧ T ≠ e ∧ h.get? T = some oT ∧ oT.data = .fields ts ∧ ts[3]? = some .none
/-- behind a call that raised: outer the callers, H and s ahead of the call -/
structure Fly (P : Program) (w : World) (outer : List Env) (H : Hp) (s : Shared) (H' : Hp) (e : Addr) (cls : Value) (s' : Shared) : Prop where
  os : s'.os = s.os
  bare : AllBare s'.gens
  un : Un (frs outer) [] H H' s.heap s'.heap
  hok : HOk P w H' s'.heap
  new : s.heap.get? e = none
  free : H' e = none
  tr : ∃ T, Trc s'.heap e T cls ∧ s.heap.get? T = none ∧ H' T = none
def CXF (P : Program) (w : World) : CXT := fun outer H s E v s' => ∃ e cls H', v = .ref e ∧ Fly P w outer H s H' e cls s' ∧ E cls (some e) H'

section
variable {P : Program} {w : World} {base : Heap} {env : Env} {outer : List Env} {L : Addr}
/-- what leaving a frame has done to a heap: all but S is as it was, of what has no fields at most the slots changed -/
structure Gone (S : List Addr) (h h' : Heap) : Prop where
  keep : ∀ b o, b ∉ S → h.get? b = some o → h'.get? b = some o
  slot : h.UpToSlots h'
theorem Gone.hok {S : List Addr} {H : Hp} {h h' : Heap} (g : Gone S h h') (hS : ∀ b ∈ S, H b = none) (x : HOk P w H h) : HOk P w H h' := fun b u e => by
  have ne : ∀ c u, H c = some u → c ∉ S := fun c u q z => by rw [hS c z] at q; cases q
  refine (x b u e).stay (fun c v hc q => g.keep c v ?_ q) (fun _ q => q) fun _ _ q => q
  rcases hc with rfl | hc
  · exact ne _ _ e
  · exact ne _ _ hc
end
/-! ### out of a def's frame -/
section
variable {X : Cx} {pins : List (Addr × Obj)} {σ : St} {H H' : Hp} {s s' : Shared} {e : Addr} {cls : Value} {Q : Unit → Shared → Prop} {E : Value → Shared → Prop}
/-- a def's body, no comprehension's block -/
structure Own (X : Cx) : Prop where
  stk : X.stack = X.env :: X.outer
  frm : X.env.frame = some X.env.locals
  ex : X.ex = []
theorem Inv.flown (I : Inv X pins σ H s) (F : Fly X.prog X.w X.stack H s H' e cls s') : Inv X pins σ H' s' := by
  obtain ⟨hh, g, d, t, os'⟩ := s'
  obtain rfl : os' = s.os := F.os
  exact I.call (h' := hh) (g' := g) (d' := d) (t' := t) (ch := []) F.un F.hok F.bare fun b z => absurd z (by simp)
end
end L2
end
section
/-! raise C(..), C an own class below ValueError; defs that may raise. -/
namespace L2
open PySem PySem.Spec PyProof.Rows
set_option maxHeartbeats 4000000
set_option Elab.async false
set_option linter.unusedVariables false

abbrev mroV : List Value := [.type "ValueError", .type "Exception", .type "BaseException", .type "object"]
/-- an own class below ValueError, behind the top: bm the classes above it -/
structure Exc (K : PySem.W.Frag) (C : Addr) (bm : List Value) : Prop where
  ob : ∃ (nm q : Str) (N : Addr) (bs : List Value) (hdct : Bool) (sn : List Str) (sub : List Value) (ab : Bool) (col : Option Bool) (dd : Option Addr) (k0 k1 k2 k3 k5 : Option Value),
    K.lookup C = some (excClassObj nm q C N bs bm hdct sn sub ab col dd k0 k1 k2 k3 k5 "ValueError.__new__") ∧ PySem.W.nsOkIn K N = true ∧ PySem.W.nsIn K N "__init__" = some none
  tl : PySem.W.tailIn K mroV bm = true
  bb : bm.contains (.type "BaseException") = true
  vb : bm.contains (.type "ValueError") = true

/-! ### contexts of defs that may raise -/
section
variable {P : Program} {w : World} {K : PySem.W.Frag} {mg : Str → Option Value} {base : Heap} {N : List Str} {qual : Str} {scope : Scope} {f : Addr} {cd : Value} {A : Around} {outer : List Env} {s : Shared} {H : Hp} {E : XK}
/-- what a def's body wants of an exception is that it leaves the frame -/
structure Lvs (X : Cx) (E : XK) : Prop where
  own : Own X
  xe : ∀ e s', wpAny (model X.prog X.w) X.A (leaving X.env e) (fun _ s'' => CXF X.prog X.w X.outer X.H₀ X.s₀ E e s'') (fun e' s'' => CXF X.prog X.w X.outer X.H₀ X.s₀ E e' s'') s' → X.xe e s'
end
section
variable {X : Cx} {E E' : XK}
end
end L2
end
section
/-! An exception that is caught in a def's frame. -/
namespace L2
open PySem PySem.Spec PyProof.Rows
set_option maxHeartbeats 4000000
set_option maxRecDepth 100000
set_option Elab.async false
set_option linter.unusedVariables false
section
variable {X : Cx} {pins : List (Addr × Obj)} {σ : St} {H H' : Hp} {s s' : Shared} {e T : Addr} {cls : Value} {S : List Addr} {h' : Heap}
/-- a heap that differs at most in the exception, its traceback and the frames -/
theorem Gone.on (I : Inv X pins σ H s) (F : Fly X.prog X.w X.stack H s H' e cls s') (g : Gone S s'.heap h') (sub : ∀ b ∈ S, (s.heap.get? b = none ∧ H' b = none) ∨ b ∈ frs X.stack)
    (tr : Trc h' e T cls) (nT : s.heap.get? T = none) (fT : H' T = none) : Fly X.prog X.w X.stack H s H' e cls { s' with heap := h' } := by
  have J := I.flown F
  have fr : ∀ b ∈ S, H' b = none := fun b hb => (sub b hb).elim (fun z => z.2) (J.stkFree b)
  have outS : ∀ b o, s.heap.get? b = some o → b ∉ frs X.stack → b ∉ S := fun b o eb nb hb => by
    rcases sub b hb with z | z
    · rw [z.1] at eb; cases eb
    · exact nb z
  have atF : ∀ b o, s.heap.get? b = some o → H b = none → b ∈ frs X.stack → ∃ sl, h'.get? b = some { o with slots := sl } := fun b o eb n hb => by
    obtain ⟨sl, e1⟩ := F.un.slot b o eb n hb (by simp)
    obtain ⟨_, o', eo, hd⟩ := I.stack.mem hb
    rw [eb] at eo; cases eo
    obtain ⟨sl', e2⟩ := g.slot b _ e1 hd
    exact ⟨sl', e2⟩
  refine ⟨F.os, F.bare, ⟨fun b o eb n hb _ => g.keep b o (outS b o eb hb) (F.un.keep b o eb n hb (by simp)), fun b o eb n hb _ => atF b o eb n hb, F.un.free, fun b o eb _ => ?_, F.un.tups, F.un.frzs, F.un.tbls⟩, g.hok fr F.hok, F.new, F.free, T, tr, nT, fT⟩
  by_cases hb : b ∈ frs X.stack
  · obtain ⟨sl, z⟩ := atF b o eb (I.stkFree b hb) hb
    exact ⟨_, z⟩
  · obtain ⟨o1, e1⟩ := F.un.there b o eb (by simp)
    exact ⟨o1, g.keep b o1 (outS b o eb hb) e1⟩
variable {A : Around} {M : Model} {E : Value → Shared → Prop} {Q : Unit → Shared → Prop}
end
end L2
end
section
/-! Own classes held against an exception. -/
namespace L2
open PySem PySem.Spec PyProof.Rows
set_option maxHeartbeats 4000000
set_option maxRecDepth 100000
set_option Elab.async false
set_option linter.unusedVariables false
section
variable {M : Model} {A : Around} {E : Value → Shared → Prop} {h : Heap} {g : Array GenState} {d : Drawn} {t : Nat} {os : OsState} {e C C0 : Addr} {oe : Obj} {Q : Bool → Shared → Prop}
variable {nm q : Str} {N : Addr} {bs bm : List Value} {hdct : Bool} {sn : List Str} {sub : List Value} {ab : Bool} {col : Option Bool} {dd : Option Addr} {k0 k1 k2 k3 k5 : Option Value} {ni : String}
variable {nm' q' : Str} {N' : Addr} {bs' bm' : List Value} {hdct' : Bool} {sn' : List Str} {sub' : List Value} {ab' : Bool} {col' : Option Bool} {dd' : Option Addr} {k0' k1' k2' k3' k5' : Option Value} {ni' : String}
end
section
variable {prog : Program} {w : World} {A : Around} {E : Value → Shared → Prop} {K : PySem.W.Frag} {h : Heap} {g : Array GenState} {d : Drawn} {t : Nat} {os : OsState} {e C : Addr} {dc : Option Addr} {vs : Array Value} {sl : Array (Option Value)}
end
end L2
end
section
/-! isinstance of an exception; try .. except C as e. -/
namespace L2
open PySem PySem.Spec PyProof.Rows
set_option maxHeartbeats 4000000
set_option maxRecDepth 100000
set_option Elab.async false
set_option linter.unusedVariables false
/-- what the tables tell of an own class below ValueError -/
structure ExcF (K : PySem.W.Frag) (C : Addr) (bm : List Value) : Prop extends Exc K C bm where
  l1 : PySem.W.findIn K (.ref C) "__getattribute__" = some (some (.builtin "BaseException.__getattribute__"))
  l2 : PySem.W.findIn K (.ref C) "__class__" = some (some (.builtin "object.__class__"))
  l3 : PySem.W.findIn K (.ref C) "__getattr__" = some none
  l4 : PySem.W.subIn K (.ref C) (.type "BaseException") = some true
  l5 : PySem.W.subIn K (.ref C) (.type "object") = some true
section
variable {X : Cx}
end
end L2
end
section
/-! try: .. except C as e: .. -/
namespace L2
open PySem PySem.Spec PyProof.Rows
set_option maxHeartbeats 4000000
set_option maxRecDepth 100000
set_option Elab.async false
set_option linter.unusedVariables false
section
variable {X : Cx} {pins : List (Addr × Obj)} {σ : St} {H H' : Hp} {s s' : Shared} {e C : Addr} {cls : Value} {A : Around} {E : Value → Shared → Prop}
end
/-- a suite that may raise: how it ends, and how an exception leaves it -/
abbrev TB := St → Hp → (Hp → Prop) → XK → Prop
section
variable {X : Cx} {body suite : List Stmt} {b₀ : Stmt} {tb : TB} {ts : TS} {x n : Str} {np hp pos : Pos} {C0 : Addr} {bm0 : List Value} {k : Nat}
end
end L2
end
section
/-! Things that lie fixed; a thing that runs when called; `call()` as the body of a try. -/
namespace L2
open PySem PySem.Spec PyProof.Rows
set_option maxHeartbeats 4000000
set_option maxRecDepth 100000
set_option Elab.async false
set_option linter.unusedVariables false
/-- the object o at a, for good -/
def Fz (a : Addr) (o : Obj) : HO := .frz o (.ext fun h => h.get? a = some o)
theorem fz_ok {P : Program} {w : World} {H : Hp} {h : Heap} {a : Addr} {o : Obj} (e : h.get? a = some o) : ObjOk P w H h a (Fz a o) := ⟨e, e, ⟨_, e⟩, fun _ _ q k => k _ q⟩
theorem fz_get {P : Program} {w : World} {H : Hp} {h : Heap} {a : Addr} {o : Obj} (x : HOk P w H h) (e : H a = some (Fz a o)) : h.get? a = some o := (x a _ e).1
end L2
end
section
/-! A lambda without parameters runs. -/
namespace L2
open PySem PySem.Spec PyProof.Rows
set_option maxHeartbeats 4000000
set_option maxRecDepth 100000
set_option Elab.async false
set_option linter.unusedVariables false
/-- the cells that it holds, over base: the names N with the values σ -/
structure Cap (base : Heap) (scope : Scope) (cl : List (Str × Addr)) (N : List Str) (σ : St) : Prop where
  inj : ∀ x y c, cl.lookup x = some c → cl.lookup y = some c → x = y
  has : ∀ x, scope.names.lookup x = some .free → ∃ c, cl.lookup x = some c
  cell : ∀ x c, cl.lookup x = some c → ∃ v, base.IsCell c v
  val : ∀ (i : Nat) (x : Str) (v : V), N[i]? = some x → σ[i]? = some (some v) → scope.names.lookup x = some .free ∧ ∃ u c, RelV v u ∧ cl.lookup x = some c ∧ base.IsCell c (some u)
  len : σ.length = N.length
structure LamS (scope : Scope) : Prop where
  kind : scope.kind = .function
  co : scope.isCoroutine = false
  gen : scope.isGenerator = false
  nocell : ∀ y ∈ scope.names, y.2 ≠ .cell
section
variable {P : Program} {w : World} {K : PySem.W.Frag} {mg : Str → Option Value} {base : Heap} {N : List Str} {qual : Str} {scope : Scope} {cl : List (Str × Addr)} {f : Addr} {cd : Value} {A : Around} {outer : List Env} {s : Shared} {H : Hp} {E : XK} {σ : St}
end
end L2
end
section
/-! A lambda is made and handed on. -/
namespace L2
open PySem PySem.Spec PyProof.Rows
set_option maxHeartbeats 4000000
set_option maxRecDepth 100000
set_option Elab.async false
set_option linter.unusedVariables false
/-- the table at T: each code object in it is known, by the name q -/
def Tab (q : Str) (H : Hp) (T : Addr) : Prop := ∃ l : List (Pos × Addr), H T = some (.tbl (triples l).toArray) ∧ ∀ x ∈ l, ∃ oc vs t, H x.2 = some (Fz x.2 oc) ∧ oc.data = .fields vs ∧ vs[1]? = some (.str q t)
theorem Tab.same {q : Str} {H H' : Hp} {T : Addr} (x : Tab q H T) (s : Same H H') : Tab q H' T :=
  let ⟨l, e, h⟩ := x
  ⟨l, s _ _ e, fun y hy => let ⟨oc, vs, t, a, b⟩ := h y hy; ⟨oc, vs, t, s _ _ a, b⟩⟩
theorem Tab.empty {q : Str} {H : Hp} {T : Addr} (e : H T = some (.tbl #[])) : Tab q H T := ⟨[], e, fun _ h => nomatch h⟩
abbrev lamQ (X : Cx) : Str := X.env.qual ++ "<lambda>"
structure LamAt (X : Cx) (T : Addr) (params : Arguments) (body : Expr) (scope : Scope) (H : Hp) (f : Addr) (H' : Hp) : Prop where
  new : H f = none
  grow : ∀ b u, b ≠ T → H b = some u → H' b = some u
  tab : Tab (lamQ X) H' T
  ob : ∃ cl pm c' ctv oc vs t, H' f = some (Fz f (PySem.W.kla_obj "<lambda>" (lamQ X) params body scope cl pm c' ctv)) ∧ H' c' = some (Fz c' oc) ∧ oc.data = .fields vs ∧ vs[1]? = some (.str (lamQ X) t) ∧
    (∀ x c, cl.lookup x = some c → X.env.cells.lookup x = some c) ∧ ∀ x, (x, NameKind.free) ∈ scope.names → ∃ c, cl.lookup x = some c
section
variable {X : Cx} {T c : Addr} {params : Arguments} {body : Expr} {scope : Scope} {pos : Pos}
end
end L2
end
section
/-! f(lambda: ..), f one that calls what it is given: over a greater base, in which the cells lie. -/
namespace L2
open PySem PySem.Spec PyProof.Rows
set_option maxHeartbeats 4000000
set_option maxRecDepth 100000
set_option Elab.async false
set_option linter.unusedVariables false
open Classical in
noncomputable def outOf (base : Heap) (cl : List (Str × Addr)) (h : Heap) : List Addr := (List.range h.objs.size).filter fun a => decide (base.get? a = none ∧ ∀ x, cl.lookup x ≠ some a)
noncomputable def baseOf (base : Heap) (cl : List (Str × Addr)) (h : Heap) : Heap := lessOf (outOf base cl h) h
section
variable {base h : Heap} {cl : List (Str × Addr)} {b : Addr} {o : Obj}
theorem base_in (e : h.get? b = some o) (hi : (∃ u, base.get? b = some u) ∨ ∃ x, cl.lookup x = some b) : (baseOf base cl h).get? b = some o := by
  unfold baseOf
  rw [less_out]
  · exact e
  · intro z
    have z := (List.mem_filter.mp z).2
    have z : base.get? b = none ∧ ∀ x, cl.lookup x ≠ some b := by simpa using z
    rcases hi with ⟨u, q⟩ | ⟨x, q⟩
    · rw [z.1] at q; cases q
    · exact z.2 x q
end
section
variable {X : Cx} {pins : List (Addr × Obj)} {σ : St} {H : Hp} {s : Shared} {cl : List (Str × Addr)} {N : List Str} {js : List Nat} {scope : Scope}
theorem Inv.cap (I : Inv X pins σ H s) (B : Blk X.env.scope X.N N 0 js scope) (c1 : ∀ x c, cl.lookup x = some c → X.env.cells.lookup x = some c) (c2 : ∀ x, (x, NameKind.free) ∈ scope.names → ∃ c, cl.lookup x = some c) :
    Cap (baseOf X.base cl s.heap) scope cl N (inner 0 js σ) := by
  have cell : ∀ {x : Str} {c : Addr} {v : Option Value}, cl.lookup x = some c → s.heap.IsCell c v → (baseOf X.base cl s.heap).IsCell c v := fun {x c v} e ⟨o, ho, hd⟩ => ⟨o, base_in ho (.inr ⟨x, e⟩), hd⟩
  refine ⟨fun x y c a b => I.ok.inj x y c (c1 x c a) (c1 y c b), fun x hx => c2 x (PySem.mem_of_lookup hx), fun x c e => ?_, fun i x v h1 h2 => ?_, ?_⟩
  · obtain ⟨v, hv⟩ := I.cell x c (c1 x c e)
    exact ⟨v, cell e hv⟩
  · obtain ⟨k, j, rfl, hk, hv⟩ := inner_get h2
    have h1' : (N.drop 0)[k]? = some x := by rw [List.getElem?_drop]; exact h1
    have hxm : x ∈ N.drop 0 := List.mem_of_getElem? h1'
    have hfree : scope.names.lookup x = some .free := B.fr x hxm
    have hj : X.N[j]? = some x := by
      rw [B.out, List.getElem?_map, hk] at h1'
      have hjl : j < X.N.length := B.js j (List.mem_of_getElem? hk)
      rw [List.getElem?_eq_getElem hjl]
      have e : X.N.getD j "" = x := by simpa using h1'
      rw [← e]
      simp [List.getD_eq_getElem?_getD, List.getElem?_eq_getElem hjl]
    have hcap := B.cap _ (PySem.mem_of_lookup hfree) rfl
    obtain ⟨m, hn, hl⟩ := I.loc
    obtain ⟨u, ru, lk⟩ := hl j x v hj hv (hcap.elim (fun z => .inr (.inl z)) fun z => .inr (.inr z))
    refine ⟨hfree, ?_⟩
    rcases lk with ⟨z, _⟩ | ⟨_, c, e, q⟩
    · exact absurd (show X.env.scope.names.lookup x = some .local from z) (by rcases hcap with y | y <;> (rw [y]; decide))
    · obtain ⟨c', e'⟩ := c2 x (PySem.mem_of_lookup hfree)
      have ec := c1 x c' e'
      rw [e] at ec
      cases ec
      exact ⟨u, c, ru, e', cell e' q⟩
  · unfold inner
    rw [List.length_append, List.length_replicate, List.length_map, B.len]
end
section
variable {X : Cx} {T c r : Addr} {params : Arguments} {body : Expr} {scope : Scope} {x : Str} {p lpos pos : Pos} {k kr : Nat} {fd : FuncData} {px : Str} {R : VK → VK} {Ec : VK → XK} {te : XK → TE} {N : List Str} {js : List Nat} {qn : Str}
end
end L2
end
section
/-! sum of a list of ints; l.index(True) of a list of truths. -/
namespace L2
open PySem PySem.Spec PyProof.Rows
set_option maxHeartbeats 4000000
set_option maxRecDepth 100000
set_option Elab.async false
set_option linter.unusedVariables false
section
variable {X : Cx}
end
end L2
end
section
/-! Defs that raise, by name; the law's call where the law makes lambdas. -/
namespace L2
open PySem PySem.Spec PyProof.Rows
set_option maxHeartbeats 4000000
set_option maxRecDepth 100000
set_option Elab.async false
set_option linter.unusedVariables false
section
variable {X : Cx} {k k' : Nat} {x : Str} {ps : List Str} {sp : Sp} {e : Expr} {es : List Expr} {t : TA} {p pos : Pos} {E : XK}
end
section
variable {P : Program} {w : World} {K : PySem.W.Frag} {mg : Str → Option Value} {base : Heap}
end
end L2
end
section
/-! f(lambda: ..) with the scopes by name. -/
namespace L2
open PySem PySem.Spec PyProof.Rows
set_option maxHeartbeats 4000000
set_option maxRecDepth 100000
set_option Elab.async false
set_option linter.unusedVariables false
section
variable {X : Cx} {T c : Addr} {params : Arguments} {body : Expr} {scope sc : Scope} {x : Str} {p lpos pos : Pos} {k kr k' : Nat} {px : Str} {R : VK → VK} {Ec : VK → XK} {te : XK → TE} {N N0 : List Str} {js : List Nat}
end
end L2
end
section
/-! sum of a tuple of ints. -/
namespace L2
open PySem PySem.Spec PyProof.Rows
set_option maxHeartbeats 4000000
set_option maxRecDepth 100000
set_option Elab.async false
set_option linter.unusedVariables false
section
variable {X : Cx}
end
end L2
end
section
/-! A loop over any iterator whose items are known. -/
namespace L2
open PySem PySem.Spec PyProof.Rows
set_option maxHeartbeats 4000000
set_option Elab.async false
set_option linter.unusedVariables false
theorem for_items {J : It} {g : TG} {tb : TS} {D : Ends} {σ : St} {H : Hp} (n : Nat) (itm : Nat → Hp → V → Prop) (Pv : Nat → St → Hp → Prop) (h0 : Pv 0 σ H)
    (items : ∀ i σ H, i ≤ n → Pv i σ H → (i < n → J.go i H ∧ ∀ x H2, J.yld i H x H2 → Same H H2 ∧ itm i H2 x) ∧ (n ≤ i → J.stop i H))
    (hs : ∀ i x σ H H2, i < n → Pv i σ H → Same H H2 → itm i H2 x → g x σ H2 fun σ2 H3 => tb { D with nx := Pv (i + 1), ct := Pv (i + 1), bk := D.nx } σ2 H3) (hd : ∀ σ H, Pv n σ H → D.nx σ H) :
    ∃ W : Nat → Nat → St → Hp → Prop, (∃ m, W 0 m σ H) ∧ ∀ i m σ H, W i m σ H →
      (J.stop i H ∧ D.nx σ H) ∨ (J.go i H ∧ ∃ N : St → Hp → Prop, (∀ σ' H', N σ' H' → ∃ m', m' < m ∧ W (i + 1) m' σ' H') ∧ ∀ x H', J.yld i H x H' → g x σ H' fun σ2 H2 => tb { D with nx := N, ct := N, bk := D.nx } σ2 H2) := by
  refine ⟨fun i m σ H => m + i = n ∧ Pv i σ H, ⟨n, rfl, h0⟩, fun i m σ H hw => ?_⟩
  obtain ⟨e, p⟩ := hw
  have it := items i σ H (by omega) p
  cases m with
  | zero =>
    obtain rfl : i = n := by omega
    exact .inl ⟨it.2 (Nat.le_refl _), hd σ H p⟩
  | succ m =>
    obtain ⟨go, yl⟩ := it.1 (by omega)
    refine .inr ⟨go, Pv (i + 1), fun σ' H' q => ⟨m, Nat.lt_succ_self _, by omega, q⟩, fun x H' y => ?_⟩
    obtain ⟨sm, im⟩ := yl x H' y
    exact hs i x σ H H' (by omega) p sm im
end L2
end
section
/-! Tuples of pairs held side by side. -/
namespace L2
open PySem PySem.Spec PyProof.Rows
set_option maxHeartbeats 4000000
set_option maxRecDepth 100000
set_option Elab.async false
set_option linter.unusedVariables false
/-- a row of pairs -/
def Prs (H : Hp) (xs : List V) (bl : List (Int × Int)) : Prop := xs.length = bl.length ∧ ∀ (j : Nat) (b : Int × Int), bl[j]? = some b → ∃ p, xs[j]? = some (.ref p) ∧ H p = some (.tup [.int b.1, .int b.2])
section
variable {X : Cx}
end
end L2
end
section
/-! sorted(l) of a list of pairs of ints whose first ones are all unlike. -/
namespace L2
open PySem PySem.Spec PySem.W PyProof.Rows
set_option maxHeartbeats 4000000
set_option maxRecDepth 100000
set_option Elab.async false
set_option linter.unusedVariables false
/-- at v stands the tuple (a, b) -/
def PairAt (h : Heap) (v : Value) (a b : Int) : Prop := ∃ (x : Addr) (o : Obj) (k : Nat) (t u : Tok), v = .ref x ∧ h.get? x = some o ∧ o.cls = .type "tuple" ∧ o.data = .seq #[.int a t, .int b u] k
def pOut (p : Array Nat) (vs : List Value) : Array Value := (p.toList.map fun i => vs.getD i Value.none).toArray
section
variable {prog : Program} {w : World} {A : Around} {E : Value → Shared → Prop} {s : Shared}
theorem pair_lt {v v' : Value} {a b a' b' : Int} {Q : Bool → Shared → Prop} (h : PairAt s.heap v a b) (h' : PairAt s.heap v' a' b') (e : a = a' → b = b') (q : Q (decide (a < a')) s) : wpAny (model prog w) A (keyLt' (tuples' true) v v') Q E s := by
  obtain ⟨x, o, k, t, u, rfl, ho, hc, hd⟩ := h
  obtain ⟨x', o', k', t', u', rfl, ho', hc', hd'⟩ := h'
  refine kat_lt ho hd ho' hd' (kat_cons (wpAny_eqBool_int (kat_go (fun z => kat_yes (kat_cons (wpAny_eqBool_int (kat_go (fun z2 => kat_yes (kat_nil ?_)) fun z2 => ?_)))) fun z => kat_no (oneLt_int q))))
  · have ea : a = a' := by simpa using z
    rw [decide_eq_false (by omega)] at q
    exact q
  · have ea : a = a' := by simpa using z
    have := e ea
    simp [this] at z2
theorem tups_of {vs : List Value} {ks : List (Int × Int)} (hl : vs.length = ks.length) (h : ∀ (i : Nat) v k, vs[i]? = some v → ks[i]? = some k → PairAt s.heap v k.1 k.2) : ∃ fs : List Value, KatTups s.heap vs fs ∧ fs.length = vs.length ∧ ∀ f ∈ fs, ∃ i t, f = .int i t := by
  induction vs generalizing ks with
  | nil => exact ⟨[], .nil, rfl, fun f hf => absurd hf List.not_mem_nil⟩
  | cons v vs ih =>
    cases ks with
    | nil => simp at hl
    | cons k ks =>
      obtain ⟨fs, a, b, c⟩ := ih (ks := ks) (by simpa using hl) fun i v' k' x y => h (i + 1) v' k' x y
      obtain ⟨x, o, m, t, u, rfl, ho, hc, hd⟩ := h 0 v k rfl rfl
      refine ⟨.int k.1 t :: fs, .cons ho hc hd rfl a, by simp [b], fun f hf => ?_⟩
      rcases List.mem_cons.mp hf with rfl | z
      · exact ⟨_, _, rfl⟩
      · exact c f z
theorem sort_pairs {a : Addr} {vs : List Value} {ks : List (Int × Int)} {n : Nat} {Fi : PySem.Fin → Shared → Prop} (ho : s.heap.get? a = some (seqObj "list" vs.toArray n)) (hl : vs.length = ks.length) (hP : ∀ (i : Nat) v k, vs[i]? = some v → ks[i]? = some k → PairAt s.heap v k.1 k.2)
    (nd : (ks.map (·.1)).Nodup) (h64 : vs.length < 64) (h : ∀ p, Pm vs.length p → Up (fun i => (ks.getD i (0, 0)).1) p vs.length → Fi (.done (.ret .none)) { s with heap := sortedHeap s.heap a vs (pOut p vs) }) :
    wpAny (model prog w) A (Builtin.«list.sort» ⟨[.ref a], []⟩) Fi E s := by
  have ha : a < s.heap.objs.size := Heap.lt_size ho
  have emptied := get?_update_seq ho fun _ => (#[] : Array Value)
  obtain ⟨ep, ho1⟩ : ∃ ep, (s.heap.update a (Obj.mapSeq fun _ => (#[] : Array Value))).get? a = some (seqObj "list" #[] ep) := ⟨_, emptied⟩
  generalize hh : ((s.heap.update a (Obj.mapSeq fun _ => (#[] : Array Value))).push (seqObj "tuple" vs.toArray 0)).push (seqObj "list" #[] 0) = h6
  have ho6 : h6.get? a = some (seqObj "list" #[] ep) := by rw [← hh]; exact Heap.get?_push_of_some _ (Heap.get?_push_of_some _ ho1)
  have old : ∀ {x : Addr} {o : Obj}, s.heap.get? x = some o → x ≠ a → h6.get? x = some o := fun {x o} e ne => by
    rw [← hh]
    exact Heap.get?_push_of_some _ (Heap.get?_push_of_some _ (by rw [Heap.get?_update_ne _ _ _ _ ne]; exact e))
  have hP6 : ∀ (i : Nat) v k, vs[i]? = some v → ks[i]? = some k → PairAt h6 v k.1 k.2 := fun i v k y1 y2 => by
    obtain ⟨x, o, m, t, u, rfl, hx, hc, hd⟩ := hP i v k y1 y2
    refine ⟨x, o, m, t, u, rfl, old hx fun z => ?_, hc, hd⟩
    rw [z, ho] at hx
    cases hx
    exact absurd (show Value.type "list" = Value.type "tuple" from hc) (by simp)
  have last : ∀ (out : Array Value) (f : Option Value), f = none → out.size ≤ sizeLine + 1 → Fi (.done (.ret .none)) { s with heap := sortedHeap s.heap a vs out } → Fi (.done (.ret .none)) { s with heap := h6.update a (Obj.mapSeq fun _ => out) } := fun out f _ _ z => by
    rw [← hh]; exact z
  have szv : vs.length ≤ sizeLine := by rw [sizeLine_eq]; omega
  rw [list_sort_plain]
  refine wpAny_bind (listItems_at ho rfl (wpAny_bind (listUpdate_at ho rfl (wpAny_bind (seqEpoch_at ho1 rfl (wpAny_bind (wpAny_newTuple (wpAny_bind (wpAny_newList (wpAny_holding ?_) (Nat.zero_le _))) szv)))) (by rw [List.size_toArray]; exact szv) (Nat.zero_le _))))
  simp only []
  rw [hh]
  have size_of : ∀ p, Pm vs.length p → (pOut p vs).size = vs.length := fun p hp => by
    unfold pOut
    rw [List.size_toArray, List.length_map, Array.length_toList, hp.size]
  by_cases c : vs.toArray.size < 2
  · rw [if_pos c, if_pos c]
    refine wpAny_bind (wpAny_pure ?_)
    rw [StateT.run_pure]
    refine wpAny_bind (wpAny_pure ?_)
    dsimp only
    have hp : Pm vs.length (List.range vs.length).toArray := ⟨by simp⟩
    have eo : (arrOf (SortSt.mk' general' (vs.toArray.zip vs.toArray) #[] 7 none)).map (·.2) = pOut (List.range vs.length).toArray vs := by
      show (vs.toArray.zip vs.toArray).map (·.2) = _
      unfold pOut
      apply Array.toList_inj.mp
      apply List.ext_getElem?
      intro i
      simp
      by_cases z : i < vs.length
      · simp [z]
      · simp [z]
    rw [eo]
    refine wpAny_bind (seqEpoch_at ho6 rfl (wpAny_bind (listUpdate_at ho6 rfl ?_ (Nat.zero_le _) (by rw [size_of _ hp]; omega))))
    simp only [bne_self_eq_false, Bool.false_eq_true, if_false]
    refine wpAny_pure (last _ none rfl (by rw [size_of _ hp]; omega) (h _ hp fun j h1 h2 => ?_))
    rw [List.size_toArray] at c
    omega
  · rw [if_neg c, if_neg c]
    rw [List.size_toArray] at c
    obtain ⟨fs, ft, fl, fi⟩ := tups_of (s := { s with heap := h6 }) hl hP6
    refine wpAny_bind (kat_kind (T := .type "int") ft (by omega) (fun v hv => ?_) (by decide) ?_)
    · obtain ⟨i, t, rfl⟩ := fi v hv
      exact .now
    have inj : ∀ i j, i < vs.length → j < vs.length → (ks.getD i (0, 0)).1 = (ks.getD j (0, 0)).1 → i = j := fun i j hi hj e => by
      have pw := List.pairwise_iff_getElem.mp nd
      have g : ∀ k, k < vs.length → ∃ h : k < (ks.map (·.1)).length, (ks.map (·.1))[k] = (ks.getD k (0, 0)).1 := fun k hk => by
        have hk' : k < ks.length := by omega
        refine ⟨by rw [List.length_map]; exact hk', ?_⟩
        rw [List.getElem_map, List.getD_eq_getElem?_getD, List.getElem?_eq_getElem hk']
        rfl
      obtain ⟨a1, b1⟩ := g i hi
      obtain ⟨a2, b2⟩ := g j hj
      rcases Nat.lt_trichotomy i j with z | z | z
      · exact absurd (by rw [b1, b2]; exact e) (pw i j a1 a2 z)
      · exact z
      · exact absurd (by rw [b1, b2]; exact e.symm) (pw j i a2 a1 z)
    have told : Told (kas_ask prog w A (tuples' (Value.type "int" != Value.type "tuple")) vs) (fun i => (ks.getD i (0, 0)).1) (fun s' => s' = { s with heap := h6 }) vs.length := fun i j C s' hi hj hs q => by
      subst hs
      have at_ : ∀ k, k < vs.length → PairAt h6 (vs.getD k Value.none) (ks.getD k (0, 0)).1 (ks.getD k (0, 0)).2 := fun k hk => by
        have hk' : k < ks.length := by omega
        have := hP6 k _ _ (List.getElem?_eq_getElem hk) (List.getElem?_eq_getElem hk')
        rw [List.getD_eq_getElem?_getD, List.getD_eq_getElem?_getD, List.getElem?_eq_getElem hk, List.getElem?_eq_getElem hk']
        exact this
      refine pair_lt (at_ i hi) (at_ j hj) (fun e => by rw [inj i j hi hj e]) (q _ rfl)
    refine wpAny_bind (wpAny_mono (kat_run (Q := fun st' s' => ∃ p : Array Nat, arrOf st' = p.map (kas_item (vs.toArray.zip vs.toArray)) ∧ failedOf st' = none ∧ s' = { s with heap := h6 } ∧ Pm vs.length p ∧ Up (fun i => (ks.getD i (0, 0)).1) p vs.length)
      rfl (by omega) h64 (fun p st' s' _ a2 a3 a4 => ⟨p, a2, a3, a4⟩) (go_sort told (by omega) inj rfl fun p s' hs hp up => ⟨hs, hp, up⟩)) ?_ fun _ _ e => e)
    rintro ⟨⟨⟩, st'⟩ s' ⟨p, har, hf, rfl, hp, up⟩
    dsimp only
    have eo : (arrOf st').map (·.2) = pOut p vs := kat_snds rfl har
    rw [eo]
    refine wpAny_bind (seqEpoch_at ho6 rfl (wpAny_bind (listUpdate_at ho6 rfl ?_ (Nat.zero_le _) (by rw [size_of _ hp]; omega))))
    rw [hf]
    simp only [bne_self_eq_false, Bool.false_eq_true, if_false]
    exact wpAny_pure (last _ none rfl (by rw [size_of _ hp]; omega) (h p hp up))
end
end L2
namespace L2
open PySem PySem.Spec PySem.W PyProof.Rows
set_option maxHeartbeats 4000000
set_option maxRecDepth 100000
end L2
end
section
/-! Lists of pairs held side by side. -/
namespace L2
open PySem PySem.Spec PyProof.Rows
set_option maxHeartbeats 4000000
set_option maxRecDepth 100000
set_option Elab.async false
set_option linter.unusedVariables false
section
variable {X : Cx}
end
end L2
end
section
/-! l == []. -/
namespace L2
open PySem PySem.Spec PyProof.Rows
set_option maxHeartbeats 4000000
set_option Elab.async false
set_option linter.unusedVariables false
section
variable {X : Cx}
end
end L2
end
section
/-! A list comprehension of two clauses. -/
namespace L2
open PySem PySem.Spec PyProof.Rows
set_option maxHeartbeats 4000000
set_option Elab.async false
set_option linter.unusedVariables false
section
variable {elt tg iter tg' iter' : Expr} {g0 : Comprehension} {scope : Scope} {pos : Pos} {it acc : Value} {env : Env}
end
section
variable {prog : Program} {w : World} {A : Around} {s : Shared} {R : Result → Shared → Prop} {elt tg iter tg' iter' : Expr} {g0 : Comprehension} {scope : Scope} {pos : Pos} {it acc : Value} {env : Env}
end
end L2
end
section
/-! Readings of a comprehension of two clauses. -/
namespace L2
open PySem PySem.Spec PyProof.Rows
set_option maxHeartbeats 4000000
set_option Elab.async false
set_option linter.unusedVariables false
/-- all stays but at a -/
def But (a : Addr) (H H' : Hp) : Prop := ∀ c o, c ≠ a → H c = some o → H' c = some o
theorem But.refl (a : Addr) (H : Hp) : But a H H := fun _ _ _ h => h
theorem But.trans {a : Addr} {H1 H2 H3 : Hp} (x : But a H1 H2) (y : But a H2 H3) : But a H1 H3 := fun c o n h => y c o n (x c o n h)
theorem But.of {a : Addr} {H H' : Hp} (s : Same H H') : But a H H' := fun c o _ h => s c o h
theorem But.upd {a : Addr} {H : Hp} (o : HO) : But a H (upd H a o) := fun c u n h => by rw [upd_ne n]; exact h
section
variable {X : Cx} {elt iter iter' : Expr} {scope : Scope} {pos : Pos} {N : List Str} {js : List Nat} {sc : Scope} {N0 : List Str} {wi wi' : TI} {te : TE} {x y z : Str} {px py pz tp : Pos} {k : Nat}
end
end L2
end
section
/-! A statement that raises nothing, where something may be raised. -/
namespace L2
open PySem PySem.Spec PyProof.Rows
set_option maxHeartbeats 4000000
set_option Elab.async false
end L2
end
section
/-! A place in the middle: what holds behind a statement is said once. -/
namespace L2
open PySem PySem.Spec PyProof.Rows
set_option maxHeartbeats 4000000
set_option Elab.async false
set_option linter.unusedVariables false
def tMid (t : TS) : TS := fun D σ H => ∃ mid : St → Hp → Prop, t { D with nx := mid } σ H ∧ ∀ σ' H', mid σ' H' → D.nx σ' H'
theorem ps_mid {X : Cx} {st : Stmt} {t : TS} (h : PS X st t) : PS X st (tMid t) := fun pins s σ H D I ⟨mid, h1, h2⟩ =>
  wpAny_mono (h pins s σ H _ I h1) (fun f s' q => by
    cases f with
    | next => obtain ⟨σ', H', I', q⟩ := q; exact ⟨σ', H', I', h2 _ _ q⟩
    | brk => exact q
    | cont => exact q
    | ret v => exact q) fun _ _ z => z
end L2
end
section
/-! enumerate(l) of a list, walked with a pair as target. -/
namespace L2
open PySem PySem.Spec PyProof.Rows
set_option maxHeartbeats 4000000
set_option maxRecDepth 100000
set_option Elab.async false
set_option linter.unusedVariables false
/-- the items of a list with their places -/
def Ite (K : PySem.W.Frag) (l : Addr) : It where
  go := fun i H => ∃ xs x, SqL K H l xs ∧ xs[i]? = some x
  yld := fun i H v H' => ∃ p x, v = .ref p ∧ H p = none ∧ H' = upd H p (.tup [.int i, x]) ∧ ∀ xs, SqL K H l xs → xs[i]? = some x
  stop := fun i H => ∃ xs, SqL K H l xs ∧ xs[i]? = none
theorem turn_enum {P : Program} {w : World} {K : PySem.W.Frag} {es : List Expr} {k0 : Nat} {pos : Pos} {e i l : Addr} (a1 : e ≠ i) (c1 : l ∉ [e, i]) :
    Turn P w K (.Tuple es k0 pos) (Ite K l) [e, i] e (fun k h => (∃ old, IsEnum h e i (k : Int) old) ∧ h.IsListIter i l k) where
  mem := by simp
  obj := fun k h ⟨⟨old, he⟩, ⟨o, e1, _, d1⟩⟩ c hc => by
    simp only [List.mem_cons, List.not_mem_nil, or_false] at hc
    rcases hc with rfl | rfl
    · exact ⟨_, he, fun v q => by cases q⟩
    · exact ⟨_, e1, fun v q => by rw [d1] at q; cases q⟩
  keep := fun k h h' ⟨⟨old, he⟩, h3⟩ kp => ⟨⟨old, kp e (by simp) _ he⟩, h3.at fun o z => kp i (by simp) o z⟩
  item := by
    intro X hP hw hK hc k pins s σ H E I hf st hg
    subst hP hw hK
    obtain ⟨xs, x, hl, hx⟩ := hg
    obtain ⟨⟨old, he⟩, hi⟩ := st
    simp only [List.mem_cons, List.not_mem_nil, or_false, not_or] at c1
    obtain ⟨its, r1, pl, _⟩ := I.list hl
    obtain ⟨u, hu, ru⟩ := r1.get hx
    refine wpAny_pyNext_enum_item he hi pl.isList (x := u) (by simpa using hu) a1 fun h' z1 z2 z3 z4 kp => ?_
    refine ⟨_, rfl, wpAny_letOwnedTupleGo_enum z1 fun h'' y1 sb => ?_⟩
    have fz : H s.heap.objs.size = none := I.hok.fresh (Nat.le_refl _)
    have mine : ∀ c ∈ [e, i], c ≠ s.heap.objs.size := fun c hc' => by
      obtain ⟨o1, e1, _⟩ := id hi
      simp only [List.mem_cons, List.not_mem_nil, or_false] at hc'
      rcases hc' with rfl | rfl
      · exact Nat.ne_of_lt (Heap.lt_size he)
      · exact Nat.ne_of_lt (Heap.lt_size e1)
    have kp2 : ∀ c o, c ∉ [e, i] → s.heap.get? c = some o → h''.get? c = some o := fun c o hc' z => by
      simp only [List.mem_cons, List.not_mem_nil, or_false, not_or] at hc'
      exact sb.extBut _ _ hc'.1 (kp c o hc'.1 hc'.2 z)
    have tp : h''.get? s.heap.objs.size = some { cls := .type "tuple", data := .seq #[.int k s.toks, u] } := sb.extBut _ _ (mine e (by simp)).symm z3
    have notH : ∀ c ∈ [e, i], H c = none := fun c hc' => (hf c hc').1
    have I1 : Inv X pins σ (upd H s.heap.objs.size (.tup [.int k, x])) { s with heap := h'', toks := s.toks + 1 } := by
      have un : Un X.fs [e, i] H (upd H s.heap.objs.size (.tup [.int k, x])) s.heap h'' :=
        ⟨fun c o z n nf hx => kp2 c o hx z, fun c o z n nf hx => ⟨o.slots, kp2 c o hx z⟩, fun c o z n hx => by rw [upd_ne (Nat.ne_of_lt (Heap.lt_size z))]; exact n,
          fun c o z hx => ⟨o, kp2 c o hx z⟩, fun c xs z => by rw [upd_ne (ne_of_none z fz)]; exact z, fun c o xs z => by rw [upd_ne (ne_of_none z fz)]; exact z, fun c ps z => ⟨#[], by rw [upd_ne (ne_of_none z fz), z]; simp⟩⟩
      have hok : HOk X.prog X.w (upd H s.heap.objs.size (.tup [.int k, x])) h'' := fun c o z => by
        by_cases hcs : c = s.heap.objs.size
        · subst hcs
          rw [upd_same] at z
          cases z
          exact ⟨by show 2 ≤ sizeLine; decide, [.int k s.toks, u], .cons ⟨_, rfl⟩ (.cons ru .nil), ⟨_, tp, rfl, _, rfl⟩⟩
        · rw [upd_ne hcs] at z
          refine (I.hok c o z).stay (fun d w' hd q => kp2 d w' (fun zz => ?_) q) (fun d q => ?_) fun d w' q => ?_
          · have hn := notH d zz
            rcases hd with rfl | hd
            · rw [hn] at z; cases z
            · rw [hn] at hd; cases hd
          · rw [upd_ne (ne_of_none q fz)]; exact q
          · rw [upd_ne (ne_of_none q fz)]; exact q
      have hch : ∀ b ∈ [e, i], (b ∈ X.ex ∨ X.s₀.heap.objs.size ≤ b) ∧ b ≠ X.env.locals ∧ (∀ x c, X.env.cells.lookup x = some c → c ≠ b) ∧ ∀ p ∈ X.pn ++ pins, p.1 ≠ b := fun b hb => ⟨(hf b hb).2.2.2.1, (hf b hb).2.1, (hf b hb).2.2.2.2.1, (hf b hb).2.2.2.2.2⟩
      refine I.step (g' := s.gens) (d' := s.drawn) (t' := s.toks + 1) (ch := [e, i]) hch (fun c o _ _ hc' z _ => kp2 c o hc' z) (fun c o _ _ hc' z _ => ⟨o.slots, kp2 c o hc' z⟩) (fun c o hc' z n => un.free c o z n hc') (fun c o hc' z => un.there c o z hc') un.tups un.frzs un.tbls (fun m' hm' => ?_) hok I.bare
      obtain ⟨o, es', ep, ho, r⟩ := hm'
      exact ⟨o, es', ep, kp2 _ o (fun zz => (hf _ zz).2.1 rfl) ho, r⟩
    refine ⟨.ref s.heap.objs.size, _, I1, rfl, ⟨s.heap.objs.size, x, rfl, fz, rfl, fun xs' q => by rw [I.list_inj q hl]; exact hx⟩, ?_, fun c hc' => ?_⟩
    · refine ⟨⟨u, ?_⟩, z2.at fun o z => sb.extBut _ _ (Ne.symm a1) z⟩
      rw [show ((k + 1 : Nat) : Int) = (k : Int) + 1 by omega]
      exact y1
    · rw [upd_ne (mine c hc')]
      exact notH c hc'
  done := by
    intro X hP hw hK hc k pins s σ H E I hf st hg
    subst hP hw hK
    obtain ⟨xs, hl, hx⟩ := hg
    obtain ⟨⟨old, he⟩, hi⟩ := st
    obtain ⟨its, r1, pl, _⟩ := I.list hl
    refine wpAny_pyNext_enum_end (I.ok.hd hc) he hi pl.isList (by simpa using r1.none_of hx) fun h' kp => ⟨rfl, ?_⟩
    have kp2 : ∀ c o, c ∉ [e, i] → s.heap.get? c = some o → h'.get? c = some o := fun c o hc' z => by
      simp only [List.mem_cons, List.not_mem_nil, or_false, not_or] at hc'
      exact kp c o hc'.2 z
    have hch : ∀ b ∈ [e, i], (b ∈ X.ex ∨ X.s₀.heap.objs.size ≤ b) ∧ b ≠ X.env.locals ∧ (∀ x c, X.env.cells.lookup x = some c → c ≠ b) ∧ ∀ p ∈ X.pn ++ pins, p.1 ≠ b := fun b hb => ⟨(hf b hb).2.2.2.1, (hf b hb).2.1, (hf b hb).2.2.2.2.1, (hf b hb).2.2.2.2.2⟩
    refine I.step (g' := s.gens) (d' := s.drawn) (t' := s.toks) (ch := [e, i]) hch (fun c o _ _ hc' z _ => kp2 c o hc' z) (fun c o _ _ hc' z _ => ⟨o.slots, kp2 c o hc' z⟩) (fun _ _ _ _ n => n) (fun c o hc' z => ⟨o, kp2 c o hc' z⟩) (fun _ _ z => z) (fun _ _ _ z => z) (fun b ps z => ⟨#[], by rw [z]; simp⟩) (fun m' hm' => ?_) (fun c o z => ?_) I.bare
    · obtain ⟨o, es', ep, ho, r⟩ := hm'
      exact ⟨o, es', ep, kp2 _ o (fun zz => (hf _ zz).2.1 rfl) ho, r⟩
    · refine (I.hok c o z).stay (fun d w' hd q => kp2 d w' (fun zz => ?_) q) (fun _ q => q) fun _ _ q => q
      have hn := (hf d zz).1
      rcases hd with rfl | hd
      · rw [hn] at z; cases z
      · rw [hn] at hd; cases hd
  self := fun A k s Q E st h => by
    obtain ⟨⟨old, he⟩, _⟩ := st
    exact wpAny_pyIter_enum he h
theorem not_fresh2 {n c : Nat} (h : c < n) (z : c = n + 1 ∨ c = n) : False := by omega
theorem fresh2 {n c : Nat} (z : c = n + 1 ∨ c = n) : n ≤ c := by omega
section
variable {X : Cx}
def iEnum (K : PySem.W.Frag) (ta : TA) : TI := fun σ H R => ta σ H fun vs H1 => ∃ l xs, vs = [.ref l] ∧ SqL K H1 l xs ∧ R (Ite K l) H1
theorem pi_enum {es : List Expr} {k0 : Nat} {tp : Pos} {a : Expr} {ta : TA} {p pos : Pos} (hg : Gl X "enumerate") (hm : X.mg "enumerate" = none) (ha : PA X [a] ta) (hs : starEach [a] X.env = [(false, eval a X.env)] := by rfl) :
    PI X (.Tuple es k0 tp) (.Call (.Name "enumerate" p) [a] [] pos) (iEnum X.K ta) := by
  intro pins s σ H R I h
  refine Call_ (ld_blt I hg hm boot_enumerate (PyProof.Rows.callWith_type1 (thn (ha pos pins s σ H _ I h) fun us s1 ⟨vs, H1, I1, r1, q1⟩ => ?_) (by rw [hs]; rfl) (by rfl)))
  obtain ⟨l, xs, e, hl, q⟩ := q1
  subst e
  obtain ⟨u, rfl, ru⟩ := vals1 r1
  cases (show u = Value.ref l from ru)
  obtain ⟨its, _, pl, _⟩ := I1.list hl
  obtain ⟨ol, eol, _⟩ := id pl.isList
  have ll : l < s1.heap.objs.size := Heap.lt_size eol
  refine call_enumerate_list pl.isList fun h' z1 z2 z3 kp => ?_
  have I2 : Inv X pins σ H1 { s1 with heap := h' } := I1.kept (t' := s1.toks) kp
  refine wpAny_pyIter_enum z1 ⟨s1.heap.objs.size + 1, [s1.heap.objs.size + 1, s1.heap.objs.size], _, _, H1, rfl, I2, turn_enum (l := l) (Nat.succ_ne_self _) (fun z => ?_), ⟨⟨_, z1⟩, z2⟩, fun c hc => ?_, q⟩
  · simp only [List.mem_cons, List.not_mem_nil, or_false] at z; exact not_fresh2 ll z
  · have hcs : s1.heap.objs.size ≤ c := by simp only [List.mem_cons, List.not_mem_nil, or_false] at hc; exact fresh2 hc
    exact I1.fpOk hcs (I1.hok.fresh hcs)
end
theorem items_enum {K : PySem.W.Frag} {a : Addr} {xs : List V} {H1 : Hp} (h : H1 a = some (.lst xs)) (i : Nat) (H : Hp) (s : Same H1 H) :
    (i < xs.length → (Ite K a).go i H ∧ ∀ v H2, (Ite K a).yld i H v H2 → Same H H2 ∧ ∃ p x, v = .ref p ∧ H2 p = some (.tup [.int i, x]) ∧ xs[i]? = some x) ∧ (xs.length ≤ i → (Ite K a).stop i H) := by
  have q : SqL K H a xs := SqL.of (s _ _ h)
  refine ⟨fun hi => ⟨⟨xs, xs[i]'hi, q, List.getElem?_eq_getElem hi⟩, fun v H2 ⟨p, x, e1, e2, e3, e4⟩ => ?_⟩, fun hi => ⟨xs, q, List.getElem?_eq_none hi⟩⟩
  subst e3
  exact ⟨same_new e2 _, p, x, e1, upd_same, e4 xs q⟩
end L2
end
section
/-! name = [comprehension with a pair as target]; lists of tuples of ints. -/
namespace L2
open PySem PySem.Spec PyProof.Rows
set_option maxHeartbeats 4000000
set_option maxRecDepth 100000
set_option Elab.async false
set_option linter.unusedVariables false
structure NbE (mg : Str → Option Value) : Prop extends Nb3 mg where
  enum : mg "enumerate" = none
section
variable {X : Cx} {elt iter : Expr} {ifs : List Expr} {scope : Scope} {pos pos' spos tp : Pos} {N : List Str} {js : List Nat} {sc : Scope} {N0 : List Str} {wi : TI} {tt : TT} {te : TE} {x y nm : Str} {px py : Pos} {ii k : Nat}
theorem ps_comp2 (hNd : X.N.Nodup) (hii : X.N[ii]? = some nm) (hloc : Loc X.env.scope nm) (hc : X.calm = true) (hsc : X.env.scope = sc) (hN : X.N = N0) (B : Blk sc N0 (x :: y :: N) 2 js scope) (hx : scope.names.lookup x = some .local) (hy : scope.names.lookup y = some .local) (hi : PI X (.Tuple [.Name x px, .Name y py] k tp) iter wi)
    (ht : ∀ cl C s H fp, PTs (blk X (x :: y :: N) scope cl C s H fp) ifs tt) (he : ∀ cl C s H fp, PE (blk X (x :: y :: N) scope cl C s H fp) elt te)
    (hsw : swapsWith (.ListComp elt [⟨.Tuple [.Name x px, .Name y py] k tp, iter, ifs, 0⟩] scope pos) (some (.Name nm pos')) spos.line X.env = pure true := by rfl)
    (hf : X.fn nm = true ∨ X.env.scope.names.lookup nm = some .local := by first | exact .inl rfl | exact .inr rfl | assumption)
    (hs : ∀ x, foldedSetIterable iter X.env x = pure x := by intro _; rfl) : PS X (.Assign [.Name nm pos'] (.ListComp elt [⟨.Tuple [.Name x px, .Name y py] k tp, iter, ifs, 0⟩] scope pos) spos) (tSetC ii (tComp 2 js wi (gTup X.K 2 (gCons (gName 0) (gCons (gName 1) gNil))) tt te)) :=
  ps_comp hNd hii hloc hc hsc hN B hi (fun cl C s H fp => pg_tup (X := blk X (x :: y :: N) scope cl C s H fp) hc (pgs_cons (pg_name (i := 0) B.nd rfl (.inl (blk_loc hx)) (.inr (blk_loc hx))) (pgs_cons (pg_name (i := 1) B.nd rfl (.inl (blk_loc hy)) (.inr (blk_loc hy))) pgs_nil))) ht he hsw hf hs
end
/-- things that are tuples of ints -/
def Rws (H : Hp) (xs : List V) (rs : List (List Int)) : Prop := xs.length = rs.length ∧ ∀ (j : Nat) (r : List Int), rs[j]? = some r → ∃ p, xs[j]? = some (.ref p) ∧ H p = some (.tup (r.map V.int))
theorem Rws.keep {H H' : Hp} {ys : List V} {rs : List (List Int)} (t : Rws H ys rs) (s : ∀ p xs, H p = some (.tup xs) → H' p = some (.tup xs)) : Rws H' ys rs := ⟨t.1, fun j b e => let ⟨p, a, c⟩ := t.2 j b e; ⟨p, a, s _ _ c⟩⟩
theorem Rws.same {H H' : Hp} {ys : List V} {rs : List (List Int)} (t : Rws H ys rs) (s : Same H H') : Rws H' ys rs := t.keep fun p xs e => s _ _ e
section
variable {X : Cx}
theorem call_tupK (K : PySem.W.Frag) (h : X.K = K) : CallR X (.type "tuple") (fun xs H Q => ∃ p ys, xs = [.ref p] ∧ ((SqL K H p ys ∧ ∀ l, H l = none → Q (.ref l) (upd H l (.tup ys))) ∨ (SqT K H p ys ∧ Q (.ref p) H))) := by subst h; exact call_tuple_of
end
end L2
end
section
/-! Tuples held fixed; dict(t), d.items(), sorted(d.items()). -/
namespace L2
open PySem PySem.Spec PyProof.Rows
set_option maxHeartbeats 4000000
set_option maxRecDepth 100000
set_option Elab.async false
set_option linter.unusedVariables false
/-- a tuple, held fixed, without a dict of its own -/
def FT (H : Hp) (p : Addr) (xs : List V) : Prop := ∃ o : Obj, H p = some (.frz o (.tup xs)) ∧ o.dict = none
theorem FT.same {H H' : Hp} {p : Addr} {xs : List V} (h : FT H p xs) (s : Same H H') : FT H' p xs := let ⟨o, a, b⟩ := h; ⟨o, s _ _ a, b⟩
theorem FT.rd {H : Hp} {p : Addr} {xs : List V} (h : FT H p xs) : Rd H p (.tup xs) := let ⟨o, a, _⟩ := h; .inr ⟨o, a⟩
theorem FT.sq {K : PySem.W.Frag} {H : Hp} {p : Addr} {xs : List V} (h : FT H p xs) : SqT K H p xs := .inl h.rd
theorem ft_new {H : Hp} {p : Addr} {xs : List V} {o : Obj} (d : o.dict = none) : FT (upd H p (.frz o (.tup xs))) p xs := ⟨o, upd_same, d⟩
theorem FT.upd {H : Hp} {a p : Addr} {xs : List V} {ob : HO} (h : FT H p xs) (n : p ≠ a) : FT (upd H a ob) p xs := let ⟨o, e, d⟩ := h; ⟨o, by rw [upd_ne n]; exact e, d⟩
section
variable {X : Cx}
def rTupF (K : PySem.W.Frag) : List V → Hp → VK → Prop := fun xs H Q => ∃ p ys, xs = [.ref p] ∧ SqL K H p ys ∧ ∀ l o, H l = none → o.dict = none → Q (.ref l) (upd H l (.frz o (.tup ys)))
theorem call_tupF : CallR X (.type "tuple") (rTupF X.K) := by
  intro pins s σ H xs us Q I r h
  obtain ⟨p, ys, rfl, hq, q⟩ := h
  obtain ⟨u, rfl, rx⟩ := vals1 r
  cases (show u = Value.ref p from rx)
  obtain ⟨its, r', pl, hz⟩ := I.list hq
  have hlen := r'.length
  refine call_tuple_list pl.isList (fun h' kp => ?_) (by simp only [List.size_toArray] <;> omega)
  have I1 : Inv X pins σ H { s with heap := h' } := I.kept (t' := s.toks) kp
  have I2 := I1.laid (a := h'.objs.size) (o := .frz { cls := .type "tuple", data := .seq its.toArray } (.tup ys)) (h' := h'.push { cls := .type "tuple", data := .seq its.toArray }) (t' := s.toks) (fun b o e => Heap.get?_push_of_some _ e) (Nat.le_refl _)
    (show ObjOk X.prog X.w _ _ _ (.frz _ (.tup ys)) from ⟨Heap.get?_push_size _ rfl, hz, its, r', IsTup.new _ _⟩)
  exact ⟨.ref h'.objs.size, _, I2, rfl, q _ _ (I1.hok.fresh (Nat.le_refl _)) rfl⟩
/-- known, or a tuple held fixed -/
def KnF (H : Hp) (x : V) (T : String) : Prop := Kn H x T ∨ (T = "tuple" ∧ ∃ a o ys, x = .ref a ∧ H a = some (.frz o (.tup ys)))
theorem call_isiF : CallR X (.builtin "isinstance") (fun xs H Q => ∃ x T U, xs = [x, .ty U] ∧ KnF H x T ∧ (U = "int" ∨ U = "bool" ∨ U = "tuple" ∨ U = "list") ∧ Q (.bl (subT T U)) H) := by
  intro pins s σ H xs us Q I r h
  obtain ⟨x, T, U, e, hk, hU, q⟩ := h
  rcases hk with hk | ⟨rfl, a, o, ys, rfl, ha⟩
  · exact call_isi pins s σ H xs us Q I r ⟨x, T, U, e, hk, hU, q⟩
  · subst e
    obtain ⟨u, c, rfl, rx, rc⟩ := vals2 r
    cases (show c = Value.type U from rc)
    cases (show u = Value.ref a from rx)
    obtain ⟨_, _, _, _, ob, h1, h2, _⟩ := (show ObjOk X.prog X.w H s.heap a (.frz o (.tup ys)) from I.hok a _ ha)
    refine PySem.W.kia_one (b := subT "tuple" U) PySem.W.kitx_tuple I.kIn ⟨ob, h1, h2⟩ ?_ (fun z => nomatch z) fun tk => ⟨.bl (subT "tuple" U), H, I.tok tk, rfl, q⟩
    rcases hU with rfl | rfl | rfl | rfl <;> rfl
end
theorem items_tupS {K : PySem.W.Frag} {a : Addr} {xs : List V} {H1 : Hp} (h : ∀ H, Same H1 H → SqT K H a xs) (i : Nat) (H : Hp) (s : Same H1 H) :
    (i < xs.length → (Itt K a).go i H ∧ ∀ x H2, (Itt K a).yld i H x H2 → Same H H2 ∧ xs[i]? = some x) ∧ (xs.length ≤ i → (Itt K a).stop i H) := by
  have q := h H s
  refine ⟨fun hi => ⟨⟨xs, xs[i], q, List.getElem?_eq_getElem hi⟩, fun x H2 ⟨e, y⟩ => ?_⟩, fun hi => ⟨xs, q, hi⟩⟩
  subst e
  exact ⟨Same.refl _, y _ q⟩
/-! ### dict(t) of a tuple of pairs -/
theorem keys_noneT : typeLookup (.type "tuple") "keys" = pure none := by rw [typeLookup_type, builtinLookup_eq_fast]; kernel_rfl
theorem no_keysT {prog : Program} {w : World} {A : Around} {E : Value → Shared → Prop} {s : Shared} {a : Addr} {xs : Array Value} {n : Nat} {sl : Array (Option Value)} {Q : Option Value → Shared → Prop}
    (hx : s.heap.get? a = some { cls := .type "tuple", dict := none, data := .seq xs n, slots := sl }) (hA : A.handled = none)
    (q : ∀ h' tk, (∀ b o, s.heap.get? b = some o → h'.get? b = some o) → Q none { s with heap := h', toks := tk }) : wpAny (model prog w) A (getAttr? (.ref a) "keys") Q E s := by
  obtain ⟨hp, g, d, tk, os⟩ := s
  have look := F.slot_tuple_getattribute.lookup
  have bound := F.slot_tuple_getattribute.bind (.ref a)
  have plain := am_tuple_getattr_none
  have under := sub_AttributeError
  simp only at hx
  have ask : ∀ {R : Value → Shared → Prop} {F : Value → Shared → Prop}, (∀ (h' : Heap) (tk' : Nat) (e : Addr), Heap.NewAttrErr hp h' e (.ref a) "keys" → F (.ref e) ⟨h', g, d, tk', os⟩) →
      wpAny (model prog w) A (call (.builtin "tuple.__getattribute__") ([.ref a] ++ [.str (Str.ofString "keys") tk])) R F ⟨hp, g, d, tk + 1, os⟩ := fun f =>
    call_meets F.slot_tuple_getattribute ⟨_, hx, rfl⟩ am_entry_tuple_getattribute (F.args_tuple_getattribute_2 _ _) (meets_getattribute_miss_tuple a xs n sl "keys" _ keys_noneT (by decide)) ⟨hx, hA, fun h' tk' e made => f h' tk' e made⟩
  wp_walk using ask
  intro h' tk' e made
  obtain ⟨t', u', he⟩ := made.there
  have kept := q h' tk' made.keeps
  wp_walk
  exact kept
end L2
end
section
/-! dict(t) of a tuple of pairs. -/
namespace L2
open PySem PySem.Spec PyProof.Rows
set_option maxHeartbeats 4000000
set_option maxRecDepth 100000
set_option Elab.async false
set_option linter.unusedVariables false
section
variable {prog : Program} {w : World} {A : Around} {R : Result → Shared → Prop}
/-- how far the loop has come -/
structure DLT (prog : Program) (w : World) (l it d : Addr) (vs : List Value) (kvs : List (Key × Value)) (i : Nat) (h : Heap) : Prop where
  po : h.IsTupleIter it l i
  ls : h.IsTuple l vs.toArray
  dt : h.DictOf (mixKind prog w) d (kvs.take i)
  pr : ∀ (j : Nat) (v : Value), vs[j]? = some v → ∃ (p : Addr) (k : Key) (key x : Value), v = Value.ref p ∧ IsTup h p #[key, x] ∧ kvs[j]? = some (k, x) ∧ (mixKind prog w).is k key = true
theorem DLT.ne {l it d : Addr} {vs : List Value} {kvs : List (Key × Value)} {i : Nat} {h : Heap} (D : DLT prog w l it d vs kvs i h) : d ≠ it := by
  obtain ⟨o, es, ep, ho, ⟨hc, _⟩, _⟩ := D.dt
  obtain ⟨o', ho', hc', _⟩ := D.po
  exact cls_ne ho ho' hc hc' (by decide)
theorem DLT.tupAt {l it d : Addr} {vs : List Value} {kvs : List (Key × Value)} {i : Nat} {h h' : Heap} {p : Addr} {xs : Array Value} (D : DLT prog w l it d vs kvs i h) (sb : Heap.SameBut it h h') (t : IsTup h p xs) : IsTup h' p xs := by
  obtain ⟨o, ho, hc, r⟩ := t
  obtain ⟨o', ho', hc', _⟩ := D.po
  exact ⟨o, sb.extBut _ _ (cls_ne ho ho' hc hc' (by decide)) ho, hc, r⟩
theorem DLT.dictAt {l it d : Addr} {vs : List Value} {kvs : List (Key × Value)} {i : Nat} {h h' : Heap} (D : DLT prog w l it d vs kvs i h) (sb : Heap.SameBut it h h') : h'.DictOf (mixKind prog w) d (kvs.take i) := by
  have ne := D.ne
  obtain ⟨o, es, ep, ho, r⟩ := D.dt
  exact ⟨o, es, ep, sb.extBut _ _ ne ho, r⟩
theorem dloopT (hh : A.handled = none) (l it d : Addr) (vs : List Value) (kvs : List (Key × Value)) (hl : vs.length = kvs.length) (few : kvs.length ≤ sizeLine) (nd : (kvs.map (·.1)).Nodup) (s0 : Heap) (s00 : Shared)
    (q : ∀ h' tk, h'.DictOf (mixKind prog w) d kvs → (∀ b o, b ≠ d → b ≠ it → s0.get? b = some o → h'.get? b = some o) → R (.ok (.ret .none)) { s00 with heap := h', toks := tk }) :
    ∀ (n i : Nat) (s : Shared), i + n = vs.length → (∀ h tk, { s with heap := h, toks := tk } = { s00 with heap := h, toks := tk }) → DLT prog w l it d vs kvs i s.heap → (∀ b o, b ≠ d → b ≠ it → s0.get? b = some o → s.heap.get? b = some o) →
      codeAny (model prog w) A (.builtin "dict.update.loop" ⟨[.ref d, .ref it, rawInt i, .none], []⟩) R s
  | 0, i, s, e, es, D, kp => by
    have ne := D.ne
    refine codeAny_builtin dl_entry ?_
    rw [Around.under_plainId dl_plain _]
    show wpAny _ A.in1 (pyNext (.ref it) >>= _) _ _ _
    have hi : i = vs.length := by omega
    refine wpAny_bind (wpAny_pyNext_tuple_end hh D.po D.ls (by simp; omega) fun h' eb => ?_)
    show wpAny _ _ (Builtin.Dict.addKeywords d [] >>= _) _ _ _
    refine wpAny_bind (wpAny_pure (wpAny_pure ?_))
    show R (.ok (.ret .none)) { s with heap := h', toks := s.toks }
    rw [es]
    refine q h' s.toks ?_ fun b o n1 n2 hb => eb b o n2 (kp b o n1 n2 hb)
    obtain ⟨o, es, ep, ho, rest⟩ := D.dt
    rw [List.take_of_length_le (by omega)] at rest
    exact ⟨o, es, ep, eb d o ne ho, rest⟩
  | n + 1, i, s, e, es, D, kp => by
    have ne := D.ne
    refine codeAny_builtin dl_entry ?_
    rw [Around.under_plainId dl_plain _]
    show wpAny _ A.in1 (pyNext (.ref it) >>= _) _ _ _
    have hi : i < vs.length := by omega
    have hv : vs[i]? = some vs[i] := List.getElem?_eq_getElem hi
    refine wpAny_bind (wpAny_pyNext_tuple_item D.po D.ls (x := vs[i]) (by simp) fun h' st' sb => ?_)
    obtain ⟨p, k, key, x, ev, tp, ek, hk⟩ := D.pr i vs[i] hv
    rw [ev]
    show wpAny _ _ (holding [Value.ref p] _ >>= _) _ _ _
    refine wpAny_bind (wpAny_holding (wpAny_bind (wpAny_tryCatch ?_)))
    have tp' : IsTup h' p #[key, x] := D.tupAt sb tp
    have dt' := D.dictAt sb
    unfold Builtin.Dict.pairItems
    refine wpAny_bind (wpAny_typeOf (T := "tuple") tp'.typeIs ?_)
    rw [if_pos (by rfl)]
    obtain ⟨o, ho, hc, m, hd⟩ := id tp'
    refine wpAny_bind (wpAny_seqItems ho hd (wpAny_pure ?_))
    show wpAny _ _ (holding [key, x] (dictSet d key x)) _ _ _
    refine wpAny_holding (wpAny_dictSet_pairs hk dt' (fun h2 dt2 sb2 => ?_) (by rw [List.length_take]; omega))
    rw [stored_next nd ek] at dt2
    refine wpAny_pure ⟨plainId_quiet dl_plain _, ?_⟩
    have nx : DLT prog w l it d vs kvs (i + 1) h2 := by
      obtain ⟨ol, hol, hcl, rl⟩ := id D.ls
      obtain ⟨oi, hoi, hci, _⟩ := id D.po
      obtain ⟨od, _, _, hod, ⟨hcd, _⟩, _⟩ := id D.dt
      have l1 : l ≠ it := cls_ne hol hoi hcl hci (by decide)
      have l2 : l ≠ d := cls_ne hol hod hcl hcd (by decide)
      refine ⟨st'.extBut sb2.extBut (Ne.symm ne), ⟨ol, sb2.extBut _ _ l2 (sb.extBut _ _ l1 hol), hcl, rl⟩, dt2, fun j v hj => ?_⟩
      obtain ⟨p', k', key', x', e1, e2, e3, e4⟩ := D.pr j v hj
      exact ⟨p', k', key', x', e1, tup_past dt' sb2 (D.tupAt sb e2), e3, e4⟩
    have := dloopT hh l it d vs kvs hl few nd s0 s00 q n (i + 1) { s with heap := h2, toks := s.toks + 1 } (by omega) (fun h tk => es h tk) nx (fun b o n1 n2 hb => sb2.extBut _ _ n1 (sb.extBut _ _ n2 (kp b o n1 n2 hb)))
    rw [show ((i + 1 : Nat) : Int) = (i : Int) + 1 by omega] at this
    exact this
end
section
variable {prog : Program} {w : World} {A : Around} {s : Shared} {R : Result → Shared → Prop}
/-- dict.__init__ of a new dict and a tuple: on to the loop over the tuple -/
theorem di_tup {d l : Addr} {xs : Array Value} {n : Nat} {sl : Array (Option Value)} (hA : A.handled = none) (hd : s.TypeIs (.ref d) "dict") (hl : s.heap.get? l = some { cls := .type "tuple", dict := none, data := .seq xs n, slots := sl })
    (next : ∀ (h1 : Heap) (tk : Nat), (∀ b o, s.heap.get? b = some o → h1.get? b = some o) →
      codeAny (model prog w) A (.builtin "dict.update.loop" ⟨[.ref d, .ref h1.objs.size, rawInt (0 : Nat), .none], []⟩) R { s with heap := h1.push { cls := .type "tuple_iterator", data := .fields #[.ref l, .int 0 0] }, toks := tk }) :
    wpAny (model prog w) A.in1 (Builtin.«dict.__init__» ⟨[.ref d, .ref l], []⟩) (fun fin s' => match fin with | .done f => R (.ok f) s' | .again c' => c'.quiet = true ∧ codeAny (model prog w) A c' R s') (fun e s' => R (.error e) s') s := by
  have hT : s.TypeIs (.ref l) "tuple" := ⟨_, hl, rfl⟩
  wp_walk using wpAny_notOrdered_dict hd, no_keysT (A := A.in1) hl hA
  intro h1 tk kp
  have hl1 : h1.IsTuple l xs := ⟨_, kp _ _ hl, rfl, n, rfl⟩
  have go := next h1 tk kp
  wp_walk using wpAny_pyIter_tuple hl1
  exact ⟨plainId_quiet dl_plain _, go⟩
end
section
variable {X : Cx}
/-- dict(l), l a tuple of pairs held fixed with unlike int keys -/
def rDictT : List V → Hp → VK → Prop := fun xs H Q => ∃ (l : Addr) (ps : List V) (kvs : List (Int × V)), xs = [.ref l] ∧ FT H l ps ∧ ps.length = kvs.length ∧ (kvs.map (·.1)).Nodup ∧
  (∀ (j : Nat) (v : V), ps[j]? = some v → ∃ (p : Addr) (k : Int) (x : V), v = .ref p ∧ H p = some (.tup [.int k, x]) ∧ kvs[j]? = some (k, x)) ∧
  ∀ d, H d = none → Q (.ref d) (upd H d (.dK (kvs.map fun kv => (Sum.inl kv.1, kv.2))))
theorem call_dictT (hc : X.calm = true) : CallR X (.type "dict") rDictT := by
  intro pins s σ H xs us Q I r h
  obtain ⟨l, ps, kvs, rfl, hl, hlen, nd, hp, q⟩ := h
  obtain ⟨u, rfl, rx⟩ := vals1 r
  cases (show u = Value.ref l from rx)
  obtain ⟨⟨oc, od, oda, osl⟩, ho, hod⟩ := hl
  simp only at hod
  subst hod
  obtain ⟨hg, hz, its, rv, o', hg', hc', n, hd'⟩ := (show ObjOk X.prog X.w H s.heap l (.frz _ (.tup ps)) from I.hok l _ ho)
  rw [hg] at hg'
  cases hg'
  simp only at hc' hd'
  subst hc' hd'
  have hls := hg
  have ilen : ps.length = its.length := rv.length
  obtain ⟨kvs', kv, l4⟩ := pairs_of I ps its kvs rv hlen hp
  have l1 : kvs'.length = kvs.length := by have := KV.length kv; rw [List.length_map] at this; exact this.symm
  have l2 : kvs'.map (·.1) = kvs.map (fun kv => (Sum.inl kv.1 : Key)) := by rw [← KV.keys kv, List.map_map]; rfl
  have hnew : (s.heap.push { cls := .type "dict", data := .dict #[] }).DictOf (mixKind X.prog X.w) s.heap.objs.size [] := Heap.DictOf.new s.heap
  have hls' : (s.heap.push { cls := .type "dict", data := .dict #[] }).get? l = some { cls := .type "tuple", dict := none, data := .seq its.toArray n, slots := osl } := Heap.get?_push_of_some _ hls
  refine callType_codes F.kt_called_dict (F.kt_typeCall_dict_1 _) F.entry_dict_init (kt_code_dict_new (Q₁ := fun v z => v = .ref s.heap.objs.size ∧ z = { s with heap := s.heap.push { cls := .type "dict", data := .dict #[] } }) _ ⟨rfl, rfl⟩)
    fun v z ⟨ev, ez⟩ => ev ▸ ez ▸ ⟨hnew.typeIs, F.args_dict_init_2 _ _, di_tup (I.ok.hd hc) hnew.typeIs hls' fun h1 tk1 kp1 => ?_⟩
  have hll : its.length = kvs'.length := by omega
  have old : ∀ b o, s.heap.get? b = some o → (h1.push { cls := .type "tuple_iterator", data := .fields #[.ref l, .int 0 0] }).get? b = some o := fun b o e => Heap.get?_push_of_some _ (kp1 _ _ (Heap.get?_push_of_some _ e))
  have nd' : (kvs'.map (·.1)).Nodup := by
    rw [l2, show kvs.map (fun kv => (Sum.inl kv.1 : Key)) = (kvs.map (·.1)).map Sum.inl by rw [List.map_map]; rfl]
    exact List.pairwise_map.mpr (nd.imp fun {a b} z w => z (Sum.inl.inj w))
  have big : s.heap.objs.size ≠ h1.objs.size := by
    obtain ⟨o, es, ep, ho, _⟩ := id hnew
    exact Nat.ne_of_lt (Heap.lt_size (kp1 _ _ ho))
  refine dloopT (A := X.A.in1) (I.ok.hd hc) l h1.objs.size s.heap.objs.size its kvs' hll (by rw [l1, ← hlen]; exact hz) nd' s.heap s (fun h' tk hd' kp => ?_) its.length 0 _ (by omega) (fun h tk => rfl) ⟨⟨_, Heap.get?_push_size _ rfl, rfl, rfl⟩, ⟨_, Heap.get?_push_of_some _ (kp1 _ _ hls'), rfl, n, rfl⟩, ?_, fun j v hj => ?_⟩ (fun b o _ _ hb => old b o hb)
  · refine ⟨rfl, .ref s.heap.objs.size, _, I.laid (a := s.heap.objs.size) (t' := tk) (o := .dK (kvs.map fun kv => (Sum.inl kv.1, kv.2))) (fun b o e => ?_) (Nat.le_refl _) ?_, rfl, q _ (I.hok.fresh (Nat.le_refl _))⟩
    · have lt := Heap.lt_size e
      have lt1 := Heap.lt_size (kp1 _ _ (Heap.get?_push_of_some _ e))
      exact kp b o (Nat.ne_of_lt lt) (Nat.ne_of_lt lt1) e
    · have bigS : sysModules < s.heap.objs.size := Nat.lt_trans (by decide) (I.mod.glob.keeps I.bk).lt
      refine ⟨by rw [List.length_map, ← hlen]; exact hz, beq_eq_false_iff_ne.mpr (Ne.symm (Nat.ne_of_lt bigS)), kvs', ?_, hd'⟩
      exact kv
  · obtain ⟨o, es, ep, ho, rest⟩ := id hnew
    exact ⟨o, es, ep, Heap.get?_push_of_some _ (kp1 _ _ ho), rest⟩
  · obtain ⟨p, k, key, x, e1, ⟨o, ho, r⟩, e3, e4⟩ := l4 j v hj
    exact ⟨p, k, key, x, e1, ⟨o, old _ _ ho, r⟩, e3, e4⟩
end
end L2
end
section
/-! d.items(), sorted(d.items()) of a dict of ints. -/
namespace L2
open PySem PySem.Spec PyProof.Rows
set_option maxHeartbeats 4000000
set_option maxRecDepth 100000
set_option Elab.async false
set_option linter.unusedVariables false
section
variable {X : Cx} {pins : List (Addr × Obj)} {σ : St} {H H' : Hp} {s : Shared} {h' : Heap}
/-- some new objects are laid and tracked at once -/
theorem Inv.laids {t' : Nat} (I : Inv X pins σ H s) (k : ∀ b u, s.heap.get? b = some u → h'.get? b = some u) (sm : Same H H') (new : ∀ b o, H' b = some o → H b = none → s.heap.objs.size ≤ b ∧ ObjOk X.prog X.w H' h' b o) : Inv X pins σ H' { s with heap := h', toks := t' } := by
  refine I.un ⟨fun b o e _ _ _ => k b o e, fun b o e _ _ _ => ⟨o.slots, k b o e⟩, fun b o e n _ => ?_, fun b o e _ => ⟨o, k b o e⟩, fun b xs e => sm _ _ e, fun b o u e => sm _ _ e, fun b ps e => ⟨#[], by rw [sm _ _ e]; simp⟩⟩ fun b u e => ?_
  · cases q : H' b with
    | none => rfl
    | some u => exact absurd (Heap.lt_size e) (Nat.not_lt.mpr (new b u q n).1)
  · cases q : H b with
    | none => exact (new b u e q).2
    | some u' =>
      rw [sm _ _ q] at e
      cases e
      exact (I.hok b _ q).stay (fun c v _ z => k c v z) (fun c z => sm _ _ z) fun c xs z => sm _ _ z
end
/-- pairs tracked -/
def trkP (H : Hp) : List (Addr × (Int × Int)) → Hp
  | [] => H
  | (a, q) :: r => upd (trkP H r) a (.tup [.int q.1, .int q.2])
theorem trkP_out {H : Hp} {a : Addr} : ∀ {l : List (Addr × (Int × Int))}, a ∉ l.map (·.1) → trkP H l a = H a
  | [], _ => rfl
  | (b, q) :: r, h => by
    show upd (trkP H r) b _ a = _
    rw [upd_ne (fun z => h (by rw [z]; exact List.mem_cons_self))]
    exact trkP_out fun z => h (List.mem_cons_of_mem _ z)
theorem trkP_in {H : Hp} {a : Addr} {q : Int × Int} : ∀ {l : List (Addr × (Int × Int))}, (l.map (·.1)).Nodup → (a, q) ∈ l → trkP H l a = some (.tup [.int q.1, .int q.2])
  | (b, p) :: r, nd, h => by
    obtain ⟨n1, n2⟩ := List.nodup_cons.mp nd
    show upd (trkP H r) b _ a = _
    rcases List.mem_cons.mp h with e | e
    · cases e; exact upd_same
    · rw [upd_ne (fun z => n1 (by rw [← z]; exact List.mem_map_of_mem (f := (·.1)) e))]
      exact trkP_in n2 e
theorem trkP_any {H : Hp} {a : Addr} {o : HO} : ∀ {l : List (Addr × (Int × Int))}, trkP H l a = some o → H a = some o ∨ ∃ q, (a, q) ∈ l ∧ o = .tup [.int q.1, .int q.2]
  | [], h => .inl h
  | (b, p) :: r, h => by
    have h' : upd (trkP H r) b (.tup [.int p.1, .int p.2]) a = some o := h
    by_cases c : a = b
    · subst c
      rw [upd_same] at h'
      exact .inr ⟨p, List.mem_cons_self, (Option.some.inj h').symm⟩
    · rw [upd_ne c] at h'
      rcases trkP_any h' with z | ⟨q, z, e⟩
      · exact .inl z
      · exact .inr ⟨q, List.mem_cons_of_mem _ z, e⟩
def viewO (d : Addr) : Obj := { cls := .type "dict_items", data := .fields #[.ref d] }
def rItems : V → List V → Hp → VK → Prop := fun x vs H Q => ∃ (d : Addr) (kvs : List (Key × V)), x = .ref d ∧ vs = [] ∧ H d = some (.dK kvs) ∧ ∀ v, H v = none → Q (.ref v) (upd H v (Fz v (viewO d)))
theorem mt_items {X : Cx} : MtR X "dict.items" rItems := by
  intro pins s σ H x xs v us Q I rx rv h
  obtain ⟨d, kvs, rfl, rfl, hd, q⟩ := h
  cases (show v = Value.ref d from rx)
  cases rv
  obtain ⟨hz, lo, vs, kv, m⟩ := dk_of I.hok hd
  refine call_meetsIn PySem.F.slot_dict_items m.typeIs PySem.F.entry_dict_items (PySem.F.args_dict_items_1 _) (meets_dict_items (mixKind X.prog X.w) d lo) ⟨⟨vs, m⟩, ?_⟩
  exact ⟨.ref s.heap.objs.size, _, I.laid (a := s.heap.objs.size) (t' := s.toks) (o := Fz s.heap.objs.size (viewO d)) (fun b o e => Heap.get?_push_of_some _ e) (Nat.le_refl _) (fz_ok (Heap.get?_push_size _ rfl)), rfl, q _ (I.hok.fresh (Nat.le_refl _))⟩
end L2
namespace L2
open PySem PySem.Spec PySem.W PyProof.Rows
set_option maxHeartbeats 4000000
set_option maxRecDepth 100000
theorem kv_get {κ : Type} : ∀ {kvs : List (κ × V)} {vs : List (κ × Value)} {i : Nat} {p : κ × V}, KV kvs vs → kvs[i]? = some p → ∃ q, vs[i]? = some q ∧ p.1 = q.1 ∧ RelV p.2 q.2
  | _, _, _, _, .nil, e => by simp at e
  | _, _, 0, _, .cons r _, e => by simp at e; subst e; exact ⟨_, rfl, r⟩
  | _, _, i + 1, p, .cons _ t, e => kv_get (i := i) (p := p) t (by simpa using e)
def kvI (q : Int × Int) : Key × V := (Sum.inl q.1, .int q.2)
def rSortI : List V → Hp → VK → Prop := fun xs H Q => ∃ (v d : Addr) (bl : List (Int × Int)), xs = [.ref v] ∧ H v = some (Fz v (viewO d)) ∧ H d = some (.dK (bl.map kvI)) ∧ (bl.map (·.1)).Nodup ∧ bl.length < 64 ∧
  ∀ (bl' : List (Int × Int)) (zs : List V) (l : Addr) (H' : Hp), bl'.Perm bl → bl'.Pairwise (fun x y => x.1 < y.1) → Same H H' → H l = none → H' l = some (.lst zs) → Prs H' zs bl' → Q (.ref l) H'
theorem call_sortI {X : Cx} (hc : X.calm = true) : CallR X (.builtin "sorted") rSortI := by
  intro pins s0 σ H0 xs us Q I0 r h
  obtain ⟨v0, d, bl, rfl, hv, hd, nd, h64, q0⟩ := h
  obtain ⟨u, rfl, rx⟩ := vals1 r
  cases (show u = Value.ref v0 from rx)
  obtain ⟨hz, lo, kvs, kv, m⟩ := dk_of I0.hok hd
  have lk : bl.length = kvs.length := by have := KV.length kv; rw [List.length_map] at this; exact this
  obtain ⟨ep, da⟩ := m.dictAt
  refine Calls.call_function_entry kind_sorted plain_sorted entry_sorted (args_sorted1 _) ?_
  unfold Builtin.«sorted»
  refine wpAny_bind (m := checkCount "sorted" 1 1 _) (wpAny_pure ?_)
  refine wpAny_bind (kdx_collect (A := X.A.in1) (knd := mixKind X.prog X.w) (kvs := kvs) (ep := ep) (I0.ok.hd hc) ⟨_, fz_get I0.hok hv, rfl, rfl⟩ da (by rw [← lk, sizeLine_eq]; omega) fun h1 tk as kp la G => ?_)
  have lab : as.length = bl.length := by omega
  have ndA : as.Nodup := G.rise.imp fun h => Nat.ne_of_lt h
  have pm : (as.zip bl).map (·.1) = as := List.map_fst_zip (by omega)
  have ndZ : ((as.zip bl).map (·.1)).Nodup := by rw [pm]; exact ndA
  have zat : ∀ (i : Nat) (a : Addr) (k : Int × Int), as[i]? = some a → bl[i]? = some k → trkP H0 (as.zip bl) a = some (.tup [.int k.1, .int k.2]) := fun i a k e1 e2 => by
    refine trkP_in ndZ ?_
    exact List.mem_of_getElem? (i := i) (by rw [List.getElem?_zip_eq_some]; exact ⟨e1, e2⟩)
  have kat : ∀ (i : Nat) (a : Addr) (k : Int × Int), as[i]? = some a → bl[i]? = some k → ∃ t1 t2, h1.get? a = some { cls := .type "tuple", data := .seq #[.int k.1 t1, .int k.2 t2] } := fun i a k e1 e2 => by
    obtain ⟨key, kk, x, f1, f2, f3⟩ := G.pairs i a e1
    have e3 : (bl.map kvI)[i]? = some (kvI k) := by rw [List.getElem?_map, e2]; rfl
    obtain ⟨p, f4, f5, f6⟩ := kv_get kv e3
    rw [f1] at f4
    cases f4
    have f5' : Sum.inl k.1 = kk := f5
    subst f5'
    obtain ⟨t1, rfl⟩ := Value.isInt_shape (k := k.1) (v := key) f2
    obtain ⟨t2, rfl⟩ := (show ∃ t, x = Value.int k.2 t from f6)
    exact ⟨t1, t2, f3⟩
  have fresh : ∀ a ∈ as, s0.heap.objs.size ≤ a := fun a ha => Nat.le_of_lt (G.above a ha)
  have I : Inv X pins σ (trkP H0 (as.zip bl)) { s0 with heap := h1, toks := tk } := by
    refine I0.laids kp (fun b o e => ?_) fun b o e n => ?_
    · rw [trkP_out]
      · exact e
      · rw [pm]
        exact fun z => absurd (I0.hok.lt e) (Nat.not_lt.mpr (fresh b z))
    · rcases trkP_any e with z | ⟨k, z, rfl⟩
      · rw [n] at z; cases z
      · obtain ⟨i, hi⟩ := List.getElem?_of_mem z
        obtain ⟨e1, e2⟩ := List.getElem?_zip_eq_some.mp hi
        obtain ⟨t1, t2, e3⟩ := kat i b k e1 e2
        exact ⟨fresh b (List.mem_of_getElem? e1), by show 2 ≤ sizeLine; decide, [.int k.1 t1, .int k.2 t2], .cons ⟨_, rfl⟩ (.cons ⟨_, rfl⟩ .nil), ⟨_, e3, rfl, _, rfl⟩⟩
  have sm0 : Same H0 (trkP H0 (as.zip bl)) := fun b o e => by
    rw [trkP_out]
    · exact e
    · rw [pm]
      exact fun z => absurd (I0.hok.lt e) (Nat.not_lt.mpr (fresh b z))
  have pr : Prs (trkP H0 (as.zip bl)) (as.map V.ref) bl := ⟨by rw [List.length_map, lab], fun j b e => by
    have jl : j < as.length := by rw [lab]; exact (List.getElem?_eq_some_iff.mp e).1
    have ja := List.getElem?_eq_getElem jl
    exact ⟨as[j], by rw [List.getElem?_map, ja]; rfl, zat j _ b ja e⟩⟩
  have rv : Vals (as.map V.ref) (as.map Value.ref) := by
    clear pr sm0 I fresh kat zat ndZ pm ndA lab la G
    induction as with
    | nil => exact .nil
    | cons a r ih => exact .cons rfl ih
  have q : ∀ (bl' : List (Int × Int)) (zs : List V) (l : Addr), bl'.Perm bl → bl'.Pairwise (fun x y => x.1 < y.1) → Prs (trkP H0 (as.zip bl)) zs bl' → trkP H0 (as.zip bl) l = none → Q (.ref l) (upd (trkP H0 (as.zip bl)) l (.lst zs)) := fun bl' zs l p1 p2 p3 p4 => by
    have sn := same_new p4 (.lst zs)
    refine q0 bl' zs l _ p1 p2 (sm0.trans sn) ?_ upd_same ⟨p3.1, fun j b e => let ⟨p, x1, x2⟩ := p3.2 j b e; ⟨p, x1, sn _ _ x2⟩⟩
    cases e : H0 l with
    | none => rfl
    | some o => rw [sm0 _ _ e] at p4; cases p4
  have lz : (as.map V.ref).length = bl.length := by rw [List.length_map, lab]
  generalize as.map V.ref = ys at pr rv lz
  have lv : (as.map Value.ref).length = bl.length := by rw [List.length_map, lab]
  have hP : ∀ (i : Nat) v k, (as.map Value.ref)[i]? = some v → bl[i]? = some k → PairAt h1 v k.1 k.2 := fun i v k e1 e2 => by
    rw [List.getElem?_map] at e1
    obtain ⟨a, e3, e4⟩ := Option.map_eq_some_iff.mp e1
    obtain ⟨t1, t2, e5⟩ := kat i a k e3 e2
    exact ⟨a, _, _, t1, t2, e4.symm, e5, rfl, rfl⟩
  generalize as.map Value.ref = vs at rv lv hP
  have szv : vs.length ≤ sizeLine := by rw [sizeLine_eq]; omega
  generalize trkP H0 (as.zip bl) = H at I pr q
  have old1 : ∀ b o, h1.get? b = some o → h1.get? b = some o := fun b o e => e
  have sz1 : h1.objs.size ≤ h1.objs.size := Nat.le_refl _
  refine wpAny_bind (wpAny_newList ?_ szv)
  have hoL : (h1.push (seqObj "list" vs.toArray 0)).get? h1.objs.size = some (seqObj "list" vs.toArray 0) := Heap.get?_push_size _ rfl
  refine wpAny_bind (wpAny_holding (wpAny_call_entry slot_list_sort ⟨_, hoL, rfl⟩ entry_list_sort (sort_pairs (s := { s0 with heap := h1.push (seqObj "list" vs.toArray 0), toks := tk }) (ks := bl) hoL lv (fun i v k e1 e2 => ?_) nd (by omega) fun p hp up => ⟨_, rfl, ?_⟩) (args_list_sort _)))
  · obtain ⟨x, o, m, t, u, e, g, c⟩ := hP i v k e1 e2
    exact ⟨x, o, m, t, u, e, Heap.get?_push_of_some _ (old1 _ _ g), c⟩
  obtain ⟨e, he⟩ := sortedHeap_at (out := pOut p vs) hoL
  have old : ∀ b o, h1.get? b = some o → (sortedHeap (h1.push (seqObj "list" vs.toArray 0)) h1.objs.size vs (pOut p vs)).get? b = some o := fun b o eb => by
    have lt := Nat.lt_of_lt_of_le (Heap.lt_size eb) sz1
    rw [sortedHeap_old (h := h1.push (seqObj "list" vs.toArray 0)) (b := b) (Nat.ne_of_lt lt) (by rw [Heap.size_push]; exact Nat.lt_succ_of_lt lt)]
    exact Heap.get?_push_of_some _ (old1 _ _ eb)
  have inside : ∀ i, i ∈ p.toList → i < bl.length := fun i hi => by
    have := List.mem_range.mp (hp.perm.mem_iff.mp hi)
    omega
  have pt : ∀ i, i < bl.length → ∃ x, ys.getD i V.non = .ref x ∧ H x = some (.tup [.int (bl.getD i (0, 0)).1, .int (bl.getD i (0, 0)).2]) ∧ vs.getD i Value.none = .ref x := fun i hi => by
    obtain ⟨x, e1, e2⟩ := pr.2 i _ (List.getElem?_eq_getElem hi)
    obtain ⟨u, e4, ru⟩ := rv.get e1
    refine ⟨x, ?_, ?_, ?_⟩
    · rw [List.getD_eq_getElem?_getD, e1]; rfl
    · rw [List.getD_eq_getElem?_getD, List.getElem?_eq_getElem hi]; exact e2
    · rw [List.getD_eq_getElem?_getD, e4]; exact (show u = Value.ref x from ru)
  have rz : Vals (p.toList.map fun i => ys.getD i V.non) (p.toList.map fun i => vs.getD i Value.none) := by
    have : ∀ l : List Nat, (∀ i ∈ l, i < bl.length) → Vals (l.map fun i => ys.getD i V.non) (l.map fun i => vs.getD i Value.none) := fun l => by
      induction l with
      | nil => intro _; exact .nil
      | cons i l ih =>
        intro hl
        obtain ⟨x, e1, _, e2⟩ := pt i (hl i List.mem_cons_self)
        refine .cons ?_ (ih fun j hj => hl j (List.mem_cons_of_mem _ hj))
        show RelV (ys.getD i V.non) (vs.getD i Value.none)
        rw [e1, e2]
        rfl
    exact this _ inside
  have lp : p.toList.length = bl.length := by rw [Array.length_toList, hp.size, lv]
  have fin := q (p.toList.map fun i => bl.getD i (0, 0)) (p.toList.map fun i => ys.getD i V.non) h1.objs.size ?_ ?_ ?_ (I.hok.fresh sz1)
  · refine wpAny_pure ⟨_, rfl, .ref h1.objs.size, _, I.laid (a := h1.objs.size) (t' := tk) (o := .lst (p.toList.map fun i => ys.getD i V.non)) old sz1 ?_, rfl, fin⟩
    exact ⟨by rw [List.length_map, lp, sizeLine_eq]; omega, _, e, rz, he⟩
  · have h2 : (List.range vs.length).map (fun i => bl.getD i (0, 0)) = bl := by
      apply List.ext_getElem?
      intro i
      rw [List.getElem?_map, lv]
      by_cases z : i < bl.length
      · rw [List.getElem?_range z, List.getElem?_eq_getElem z]
        show some (bl.getD i (0, 0)) = _
        rw [List.getD_eq_getElem?_getD, List.getElem?_eq_getElem z]
        rfl
      · rw [List.getElem?_eq_none (by simpa using z), List.getElem?_eq_none (by omega)]
        rfl
    have h3 := hp.perm.map fun i => bl.getD i (0, 0)
    rw [h2] at h3
    exact h3
  · rw [List.pairwise_map]
    refine List.pairwise_iff_getElem.mpr fun i j hi hj hij => ?_
    have ei : p.getD i 0 = p.toList[i] := by simp [Array.getD, show i < p.size by simpa using hi]
    have ej : p.getD j 0 = p.toList[j] := by simp [Array.getD, show j < p.size by simpa using hj]
    have := up.lt' hij (by rw [lv, ← lp]; exact hj)
    rw [ei, ej] at this
    exact this
  · refine ⟨by rw [List.length_map, List.length_map], fun j b hb => ?_⟩
    rw [List.getElem?_map] at hb
    cases ej : p.toList[j]? with
    | none => rw [ej] at hb; cases hb
    | some i =>
      rw [ej] at hb
      cases hb
      obtain ⟨x, e1, e2, _⟩ := pt i (inside i (List.mem_of_getElem? ej))
      refine ⟨x, ?_, e2⟩
      rw [List.getElem?_map, ej]
      exact congrArg some e1
end L2
end
section
/-! A comprehension within a comprehension's element: the outer target is a cell. -/
namespace L2
open PySem PySem.Spec PyProof.Rows
set_option maxHeartbeats 4000000
set_option maxRecDepth 100000
set_option Elab.async false
set_option linter.unusedVariables false
abbrev cell0 : Obj := { cls := .type "cell", data := .cell none }
structure Blk1 (t : Str) (sc : Scope) (N0 : List Str) (N : List Str) (nt : Nat) (js : List Nat) (scope : Scope) : Prop where
  kind : scope.kind = .function
  loc : ∀ y ∈ scope.names, y.2 = .local → scope.names.lookup y.1 = some .local
  one : ∀ n cl, cellsFrom n scope.names cl = (t, n) :: cl
  lay : ∀ h, pushCells h scope.names = h.push cell0
  only : ∀ y ∈ scope.names, y.2 = .cell → y.1 = t
  cap : ∀ y ∈ scope.names, y.2 = .free → sc.names.lookup y.1 = some .cell ∨ sc.names.lookup y.1 = some .free
  nf : ∀ y ∈ scope.names, y.2 = .free → y.1 ≠ t
  len : N.length = nt + js.length
  out : N.drop nt = js.map fun j => N0.getD j ""
  js : ∀ j ∈ js, j < N0.length
  fr : ∀ x ∈ N.drop nt, scope.names.lookup x = some .free
  nd : N.Nodup
section
variable {M : Model} {A : Around} {E : Value → Shared → Prop} {s : Shared}
end

section
variable {X : Cx} {pins : List (Addr × Obj)} {σ : St} {H : Hp} {s : Shared} {t : Str} {N : List Str} {nt : Nat} {js : List Nat} {scope : Scope} {cl : List (Str × Addr)} {fp : List Addr}
end
section
variable {X : Cx} {elt iter : Expr} {ifs : List Expr} {scope : Scope} {pos : Pos} {N : List Str} {js : List Nat} {sc : Scope} {N0 : List Str} {wi : TI} {tt : TT} {te : TE} {x : Str} {px : Pos}
end
/-! ### rules with the module's part written out, for use within blocks -/
section
variable {X : Cx} {tg : Expr}
def rLenK (K : PySem.W.Frag) : List V → Hp → VK → Prop := fun xs H Q => ∃ p ys, xs = [.ref p] ∧ (SqL K H p ys ∨ SqT K H p ys) ∧ Q (.int ys.length) H
theorem call_lenK (K : PySem.W.Frag) (h : X.K = K) : CallR X (.builtin "len") (rLenK K) := by subst h; exact call_len_seq
end
end L2
end
section
/-! Lists of tuples of tuples held side by side, where they are the same. -/
namespace L2
open PySem PySem.Spec PyProof.Rows
set_option maxHeartbeats 4000000
set_option maxRecDepth 100000
set_option Elab.async false
set_option linter.unusedVariables false
/-- the same, at most n tuples deep -/
def De (H : Hp) : Nat → V → V → Prop
  | 0, x, y => ∃ i : Int, x = .int i ∧ y = .int i
  | n + 1, x, y => De H n x y ∨ ∃ (a b : Addr) (xs ys : List V), x = .ref a ∧ y = .ref b ∧ H a = some (.tup xs) ∧ H b = some (.tup ys) ∧ xs.length = ys.length ∧ ∀ (j : Nat) (u v : V), xs[j]? = some u → ys[j]? = some v → De H n u v
section
variable {X : Cx}
theorem de_eqAt {pins : List (Addr × Obj)} {s : Shared} {σ : St} {H : Hp} (I : Inv X pins σ H s) : ∀ (n : Nat) {A : Around} {x y : V} {u v : Value}, A.units + n < cLine → De H n x y → RelV x u → RelV y v → SeqAt.EqAt A s u v true
  | 0, A, x, y, u, v, _, d, r1, r2 => by
    obtain ⟨i, rfl, rfl⟩ := d
    obtain ⟨t, rfl⟩ := (show ∃ t, u = Value.int i t from r1)
    obtain ⟨t', rfl⟩ := (show ∃ t, v = Value.int i t from r2)
    have := SeqAt.EqAt.int_int (A := A) (s := s) i t i t'
    rw [beq_self_eq_true] at this
    exact this
  | n + 1, A, x, y, u, v, hu, d, r1, r2 => by
    rcases d with d | ⟨a, b, xs, ys, rfl, rfl, ha, hb, hl, hd⟩
    · exact de_eqAt I n (by omega) d r1 r2
    cases (show u = Value.ref a from r1)
    cases (show v = Value.ref b from r2)
    by_cases e : a = b
    · subst e
      exact SeqAt.EqAt.same _
    obtain ⟨_, i1, s1, q1⟩ := I.hok a _ ha
    obtain ⟨_, i2, s2, q2⟩ := I.hok b _ hb
    have z1 := s1.length
    have z2 := s2.length
    have e3 := SeqAt.RcAt.tuples (A := A) (s := s) (e := fun _ => true) (show s.heap.IsTuple a i1.toArray from q1) (show s.heap.IsTuple b i2.toArray from q2) (by omega) fun j h1 h2 => by
      simp only [List.size_toArray] at h1 h2
      have g1 := List.getElem?_eq_getElem (show j < xs.length by omega)
      have g2 := List.getElem?_eq_getElem (show j < ys.length by omega)
      obtain ⟨w1, f1, p1⟩ := s1.get g1
      obtain ⟨w2, f2, p2⟩ := s2.get g2
      have a1 : i1.toArray[j]'(by simpa using h1) = w1 := by
        have := (List.getElem?_eq_some_iff.mp f1).2
        simpa using this
      have a2 : i2.toArray[j]'(by simpa using h2) = w2 := by
        have := (List.getElem?_eq_some_iff.mp f2).2
        simpa using this
      rw [a1, a2]
      exact de_eqAt I n (A := A.in1) (by show A.units + 1 + n < cLine; omega) (hd j _ _ g1 g2) p1 p2
    refine SeqAt.EqAt.of_refs e ?_
    have e4 : ((List.range (min i1.toArray.size i2.toArray.size)).all (fun _ => true) && i1.toArray.size == i2.toArray.size) = true := by
      simp only [List.size_toArray]
      rw [← z1, ← z2, hl, beq_self_eq_true, Bool.and_true]
      exact List.all_eq_true.mpr fun _ _ => rfl
    rw [e4] at e3
    exact e3
end
end L2
end
section
/-! Tuples and lists of tuples held side by side, where they are the same. -/
namespace L2
open PySem PySem.Spec PyProof.Rows
set_option maxHeartbeats 4000000
set_option maxRecDepth 100000
set_option Elab.async false
set_option linter.unusedVariables false
section
variable {X : Cx}
def rNeD (K : PySem.W.Frag) (n : Nat) : R2 := fun x y H Q => ∃ (a b : Addr) (xs ys : List V), x = .ref a ∧ y = .ref b ∧ SqL K H a xs ∧ SqL K H b ys ∧ xs.length = ys.length ∧ (∀ (j : Nat) (u v : V), xs[j]? = some u → ys[j]? = some v → De H n u v) ∧ Q (.bl false) H
theorem op_neD {n : Nat} (hu : X.A.units + 1 + n < cLine) : OpR X (compareOp .NotEq) (rNeD X.K n) := by
  intro pins s σ H x y v u Q I rx ry h
  obtain ⟨a, b, xs, ys, rfl, rfl, ha, hb, hl, hd, q⟩ := h
  cases rx
  cases ry
  obtain ⟨its, r1, p1, _⟩ := I.list ha
  obtain ⟨its2, r2, p2, _⟩ := I.list hb
  have l1 := r1.length
  have l2 := r2.length
  refine of_rcne' (SeqAt.RcNeAt.lists (e := fun _ => true) p1.isList p2.isList (by simp only [List.size_toArray]; omega) (by omega) (fun j h1 h2 => ?_)) ?_
  · simp only [List.size_toArray] at h1 h2
    have g1 := List.getElem?_eq_getElem (show j < xs.length by omega)
    have g2 := List.getElem?_eq_getElem (show j < ys.length by omega)
    obtain ⟨w1, f1, q1⟩ := r1.get g1
    obtain ⟨w2, f2, q2⟩ := r2.get g2
    have a1 : its.toArray[j]'(by simpa using h1) = w1 := by
      have := (List.getElem?_eq_some_iff.mp f1).2
      simpa using this
    have a2 : its2.toArray[j]'(by simpa using h2) = w2 := by
      have := (List.getElem?_eq_some_iff.mp f2).2
      simpa using this
    rw [a1, a2]
    exact de_eqAt I n (A := X.A.in1) (by show X.A.units + 1 + n < cLine; exact hu) (hd j _ _ g1 g2) q1 q2
  · rw [show (List.range its.toArray.size).all (fun _ => true) = true from List.all_eq_true.mpr fun _ _ => rfl]
    exact ⟨.bl false, H, I, rfl, q⟩
/-- two tuples that hold the same -/
def DT (K : PySem.W.Frag) (n : Nat) (H : Hp) (x y : V) : Prop := ∃ (a b : Addr) (xs ys : List V), x = .ref a ∧ y = .ref b ∧ SqT K H a xs ∧ SqT K H b ys ∧ xs.length = ys.length ∧ ∀ (j : Nat) (u v : V), xs[j]? = some u → ys[j]? = some v → De H n u v
theorem dt_items {pins : List (Addr × Obj)} {s : Shared} {σ : St} {H : Hp} {n : Nat} {x y : V} {u v : Value} (I : Inv X pins σ H s) (hu : X.A.units + 1 + n < cLine) (d : DT X.K n H x y) (rx : RelV x u) (ry : RelV y v) :
    ∃ (a b : Addr) (its its2 : List Value), u = .ref a ∧ v = .ref b ∧ s.heap.IsTuple a its.toArray ∧ s.heap.IsTuple b its2.toArray ∧ its.length = its2.length ∧ ∀ (j : Nat) (h1 : j < its.toArray.size) (h2 : j < its2.toArray.size), SeqAt.EqAt X.A.in1 s its.toArray[j] its2.toArray[j] true := by
  obtain ⟨a, b, xs, ys, rfl, rfl, ha, hb, hl, hd⟩ := d
  obtain ⟨its, r1, p1, _⟩ := I.tuple ha
  obtain ⟨its2, r2, p2, _⟩ := I.tuple hb
  have l1 := r1.length
  have l2 := r2.length
  refine ⟨a, b, its, its2, rx, ry, p1, p2, by omega, fun j h1 h2 => ?_⟩
  simp only [List.size_toArray] at h1 h2
  obtain ⟨w1, f1, g1⟩ := r1.get (List.getElem?_eq_getElem (show j < xs.length by omega))
  obtain ⟨w2, f2, g2⟩ := r2.get (List.getElem?_eq_getElem (show j < ys.length by omega))
  have a1 : its.toArray[j]'(by simpa using h1) = w1 := by simpa using (List.getElem?_eq_some_iff.mp f1).2
  have a2 : its2.toArray[j]'(by simpa using h2) = w2 := by simpa using (List.getElem?_eq_some_iff.mp f2).2
  rw [a1, a2]
  exact de_eqAt I n (A := X.A.in1) hu (hd j _ _ (List.getElem?_eq_getElem (by omega)) (List.getElem?_eq_getElem (by omega))) g1 g2
theorem all_true (n : Nat) : (List.range n).all (fun _ => true) = true := List.all_eq_true.mpr fun _ _ => rfl
theorem op_eqDT {n : Nat} (hu : X.A.units + 1 + n < cLine) : OpR X (compareOp .Eq) (fun x y H Q => DT X.K n H x y ∧ Q (.bl true) H) := by
  intro pins s σ H x y v u Q I rx ry h
  obtain ⟨a, b, its, its2, rfl, rfl, p1, p2, l, e⟩ := dt_items I hu h.1 rx ry
  refine SeqAt.eq_tupleAt (e := fun _ => true) p1 p2 (by omega) e ?_
  simp only [List.size_toArray]
  rw [l, all_true, beq_self_eq_true]
  exact ⟨.bl true, H, I, rfl, h.2⟩
theorem op_neDT {n : Nat} (hu : X.A.units + 1 + n < cLine) : OpR X (compareOp .NotEq) (fun x y H Q => DT X.K n H x y ∧ Q (.bl false) H) := by
  intro pins s σ H x y v u Q I rx ry h
  obtain ⟨a, b, its, its2, rfl, rfl, p1, p2, l, e⟩ := dt_items I hu h.1 rx ry
  refine of_rcne' (SeqAt.RcNeAt.tuples (e := fun _ => true) p1 p2 (by omega) e) ?_
  simp only [List.size_toArray]
  rw [l, all_true, beq_self_eq_true]
  exact ⟨.bl false, H, I, rfl, h.2⟩
theorem prs_de {H : Hp} {xs ys : List V} {bl : List (Int × Int)} (t : Prs H xs bl) (t' : Prs H ys bl) : xs.length = ys.length ∧ ∀ (j : Nat) (u v : V), xs[j]? = some u → ys[j]? = some v → De H 1 u v := by
  refine ⟨by rw [t.1, t'.1], fun j u v e1 e2 => ?_⟩
  have jl : j < bl.length := by rw [← t.1]; exact (List.getElem?_eq_some_iff.mp e1).1
  obtain ⟨p, x1, x2⟩ := t.2 j _ (List.getElem?_eq_getElem jl)
  obtain ⟨p', y1, y2⟩ := t'.2 j _ (List.getElem?_eq_getElem jl)
  rw [e1] at x1
  rw [e2] at y1
  cases x1
  cases y1
  refine .inr ⟨p, p', _, _, rfl, rfl, x2, y2, rfl, fun i u v f1 f2 => ?_⟩
  rw [f1] at f2
  cases f2
  match i, f1 with
  | 0, f1 => cases f1; exact ⟨_, rfl, rfl⟩
  | 1, f1 => cases f1; exact ⟨_, rfl, rfl⟩
end
end L2
end
section
/-! A comprehension whose items change what is there: by an invariant. -/
namespace L2
open PySem PySem.Spec PyProof.Rows
set_option maxHeartbeats 4000000
set_option Elab.async false
set_option linter.unusedVariables false
theorem comp_inv {J : It} {g : TG} {te : TE} {Q : VK} {D : Addr} {H1 : Hp} {σ0 : St} (n : Nat) (hn : n ≤ sizeLine) (Pv : Nat → St → Hp → List V → Prop) (itm : Nat → V → Prop)
    (h0 : Pv 0 σ0 (upd H1 D (.lst [])) []) (hD : ∀ i σ H ys, Pv i σ H ys → H D = some (.lst ys) ∧ ys.length = i)
    (items : ∀ i σ H ys, Pv i σ H ys → (i < n → J.go i H ∧ ∀ x H2, J.yld i H x H2 → H2 = H ∧ itm i x) ∧ (n ≤ i → J.stop i H))
    (step : ∀ i x σ H ys, i < n → Pv i σ H ys → itm i x → ∀ R : St → V → Hp → Prop, (∀ σ3 y H5, H5 D = some (.lst ys) → Pv (i + 1) σ3 (upd H5 D (.lst (ys ++ [y]))) (ys ++ [y]) → R σ3 y H5) → g x σ H fun σ3 H3 => te σ3 H3 (R σ3))
    (fin : ∀ σ H ys, Pv n σ H ys → Q (.ref D) H) : cmpW J g tYes te Q D σ0 H1 := by
  refine ⟨fun i m σ H => m = n - i ∧ i ≤ n ∧ ∃ ys, Pv i σ H ys, ⟨n, by omega, Nat.zero_le _, [], h0⟩, ?_⟩
  rintro i m σ H ⟨rfl, hi, ys, pv⟩
  by_cases hlt : i < n
  · obtain ⟨go, yl⟩ := (items i σ H ys pv).1 hlt
    refine .inr ⟨go, fun x H2 y => ?_⟩
    obtain ⟨rfl, im⟩ := yl x H2 y
    have key := step i x σ H2 ys hlt pv im (fun σ3 y H5 => ∃ ys, H5 D = some (.lst ys) ∧ ys.length < sizeLine ∧ ∃ m', m' < n - i ∧ (m' = n - (i + 1) ∧ i + 1 ≤ n ∧ ∃ zs, Pv (i + 1) σ3 (upd H5 D (.lst (ys ++ [y]))) zs)) fun σ3 y H5 e p => by
      have := (hD _ _ _ _ pv).2
      exact ⟨ys, e, by omega, n - (i + 1), by omega, rfl, by omega, _, p⟩
    have e : (fun (σ3 : St) (H3 : Hp) => te σ3 H3 fun y H5 => ∃ ys, H5 D = some (.lst ys) ∧ ys.length < sizeLine ∧ ∃ m', m' < n - i ∧ (m' = n - (i + 1) ∧ i + 1 ≤ n ∧ ∃ zs, Pv (i + 1) σ3 (upd H5 D (.lst (ys ++ [y]))) zs)) =
        fun (σ3 : St) (H3 : Hp) => tYes σ3 H3 fun ok H4 => if ok = true then te σ3 H4 fun y H5 => ∃ ys, H5 D = some (.lst ys) ∧ ys.length < sizeLine ∧ ∃ m', m' < n - i ∧ (m' = n - (i + 1) ∧ i + 1 ≤ n ∧ ∃ zs, Pv (i + 1) σ3 (upd H5 D (.lst (ys ++ [y]))) zs)
          else ∃ m', m' < n - i ∧ (m' = n - (i + 1) ∧ i + 1 ≤ n ∧ ∃ zs, Pv (i + 1) σ3 H4 zs) := by
      funext σ3 H3
      unfold tYes
      dsimp only
      rw [if_pos rfl]
    rw [← e]
    exact key
  · have e : i = n := by omega
    subst e
    exact .inl ⟨(items i σ H ys pv).2 (Nat.le_refl _), fin σ H ys pv⟩
end L2
end
section
/-! Lists of ints held side by side: unlike. -/
namespace L2
open PySem PySem.Spec PyProof.Rows
set_option maxHeartbeats 4000000
set_option maxRecDepth 100000
set_option Elab.async false
set_option linter.unusedVariables false
section
variable {X : Cx}
def rNeL (K : PySem.W.Frag) : R2 := fun x y H Q => ∃ (a b : Addr) (ns ms : List Int), x = .ref a ∧ y = .ref b ∧ SqL K H a (ns.map V.int) ∧ SqL K H b (ms.map V.int) ∧ ns.length = ms.length ∧ Q (.bl (!decide (ns = ms))) H
theorem op_neL (hu : X.A.units < cLine) : OpR X (compareOp .NotEq) (rNeL X.K) := by
  intro pins s σ H x y v u Q I rx ry h
  obtain ⟨a, b, ns, ms, rfl, rfl, ha, hb, hl, q⟩ := h
  cases rx
  cases ry
  obtain ⟨its, r1, p1, _⟩ := I.list ha
  obtain ⟨its2, r2, p2, _⟩ := I.list hb
  have l1 := r1.length
  have l2 := r2.length
  rw [List.length_map] at l1 l2
  refine of_rcne' (SeqAt.RcNeAt.lists p1.isList p2.isList (by simp only [List.size_toArray]; omega) hu (ints_eqAt r1 r2)) ?_
  have e := all_same ns ms
  rw [hl, Nat.min_self, beq_self_eq_true, Bool.and_true] at e
  simp only [List.size_toArray]
  rw [← l1, hl, e]
  exact ⟨.bl (!decide (ns = ms)), H, I, rfl, q⟩
end
end L2
end
section
/-! sorted(l), sorted(t) of ints. -/
namespace L2
open PySem PySem.Spec PyProof.Rows
set_option maxHeartbeats 4000000
set_option maxRecDepth 100000
set_option Elab.async false
set_option linter.unusedVariables false
section
variable {X : Cx}
def rSortL : List V → Hp → VK → Prop := fun xs H Q => ∃ (a : Addr) (ks : List Int), xs = [.ref a] ∧ (H a = some (.lst (ks.map V.int)) ∨ H a = some (.tup (ks.map V.int))) ∧ ks.length < 64 ∧
  ∀ (ns : List Int) (l : Addr), ns.Perm ks → ns.Pairwise (· ≤ ·) → H l = none → Q (.ref l) (upd H l (.lst (ns.map V.int)))
theorem call_sortL : CallR X (.builtin "sorted") rSortL := by
  intro pins s σ H xs us Q I r h
  obtain ⟨a, ks, rfl, ha, h64, q⟩ := h
  obtain ⟨u, rfl, rx⟩ := vals1 r
  cases (show u = Value.ref a from rx)
  have seq : ∃ (T : String) (o : Obj) (vs : List Value) (n : Nat), (T = "list" ∨ T = "tuple") ∧ s.heap.get? a = some o ∧ o.cls = .type T ∧ o.data = .seq vs.toArray n ∧ Vals (ks.map V.int) vs := by
    rcases ha with ha | ha
    · obtain ⟨_, vs, n, rv, ho⟩ : _ ∧ ∃ (its : List Value) (n : Nat), Vals (ks.map V.int) its ∧ s.heap.get? a = some { cls := .type "list", data := .seq its.toArray n } := I.hok a _ ha
      exact ⟨"list", _, vs, n, .inl rfl, ho, rfl, rfl, rv⟩
    · obtain ⟨_, vs, rv, o, g1, g2, n, g3⟩ : _ ∧ ∃ its : List Value, Vals (ks.map V.int) its ∧ IsTup s.heap a its.toArray := I.hok a _ ha
      exact ⟨"tuple", o, vs, n, .inr rfl, g1, g2, g3, rv⟩
  obtain ⟨T, o, vs, n, hT, g1, g2, g3, rv⟩ := seq
  have lk : vs.length = ks.length := by have := rv.length; rw [List.length_map] at this; exact this.symm
  have szv : vs.length ≤ sizeLine := by rw [sizeLine_eq]; omega
  have hI : IntsAre vs ks := by
    refine intsAre_of (vals_of _ _ lk fun j u hj => ?_)
    have jl : j < ks.length := by rw [← lk]; exact (List.getElem?_eq_some_iff.mp hj).1
    have e3 : (ks.map V.int)[j]? = some (.int ks[j]) := by rw [List.getElem?_map, List.getElem?_eq_getElem jl]; rfl
    obtain ⟨v, e4, rv'⟩ := rv.get e3
    rw [hj] at e4
    cases e4
    obtain ⟨t, e5⟩ := (show ∃ t, u = Value.int ks[j] t from rv')
    exact ⟨t, ks[j], List.getElem?_eq_getElem jl, e5⟩
  refine Calls.call_function_entry kind_sorted plain_sorted entry_sorted (args_sorted1 _) ?_
  unfold Builtin.«sorted»
  refine wpAny_bind (m := checkCount "sorted" 1 1 _) (wpAny_pure ?_)
  refine wpAny_bind (wpAny_collect_seq a hT g1 g2 g3 (fun h' hk' => ?_) (by rw [List.size_toArray]; exact szv))
  have I0 : Inv X pins σ H { s with heap := h' } := I.kept (t' := s.toks) hk'
  rw [show vs.toArray.toList = vs from rfl]
  refine wpAny_bind (wpAny_newList ?_ szv)
  have hoL : (h'.push (seqObj "list" vs.toArray 0)).get? h'.objs.size = some (seqObj "list" vs.toArray 0) := Heap.get?_push_size _ rfl
  refine wpAny_bind (wpAny_holding (wpAny_call_entry slot_list_sort ⟨_, hoL, rfl⟩ entry_list_sort (list_sort_tree (s := { s with heap := h'.push (seqObj "list" vs.toArray 0) }) hoL hI (by rw [lk]; exact h64) fun out ns' a1 a2 a3 => ⟨_, rfl, ?_⟩) (args_list_sort _)))
  obtain ⟨e, he⟩ := sortedHeap_at (out := out) hoL
  have old : ∀ b o, h'.get? b = some o → (sortedHeap (h'.push (seqObj "list" vs.toArray 0)) h'.objs.size vs out).get? b = some o := fun b o eb => by
    have lt := Heap.lt_size eb
    rw [sortedHeap_old (h := h'.push (seqObj "list" vs.toArray 0)) (b := b) (Nat.ne_of_lt lt) (by rw [Heap.size_push]; exact Nat.lt_succ_of_lt lt)]
    exact Heap.get?_push_of_some _ eb
  refine wpAny_pure ⟨_, rfl, .ref h'.objs.size, _, I0.laid (a := h'.objs.size) (t' := s.toks) (o := .lst (ns'.map V.int)) old (Nat.le_refl _) ?_, rfl, q ns' _ a2 a3 (I0.hok.fresh (Nat.le_refl _))⟩
  refine ⟨by rw [List.length_map, a2.length_eq, sizeLine_eq]; omega, out.toList, e, vals_ints a1, ?_⟩
  have e9 : out.toList.toArray = out := by simp
  rw [e9]
  exact he
end
end L2
end
section
/-! Peeling: what is taken out, what is left. -/
namespace BB
set_option linter.unusedVariables false
/-- the balls with an empty box right behind them -/
def bare (row : List Int) : List Int := row.filter fun p => decide (p + 1 ∉ row)
/-- what a comprehension with a test tells of a list -/
theorem sel_list {α β : Type} (d : α) (l : List α) (q : α → Bool) (f : α → β) : ((List.range l.length).filter fun i => q (l.getD i d)).map (fun i => f (l.getD i d)) = (l.filter q).map f := by
  induction l with
  | nil => rfl
  | cons a r ih =>
    rw [List.length_cons, List.range_succ_eq_map, List.filter_cons, List.filter_map, List.filter_cons]
    have e1 : (a :: r).getD 0 d = a := rfl
    have e2 : ((fun i => q ((a :: r).getD i d)) ∘ Nat.succ) = fun i => q (r.getD i d) := rfl
    rw [e1, e2]
    cases hq : q a with
    | true =>
      simp only [if_true, List.map_cons, List.map_map]
      rw [show (List.map ((fun i => f ((a :: r).getD i d)) ∘ Nat.succ) ((List.range r.length).filter fun i => q (r.getD i d))) = ((List.range r.length).filter fun i => q (r.getD i d)).map fun i => f (r.getD i d) from rfl, ih]
      rfl
    | false =>
      simp only [Bool.false_eq_true, if_false, List.map_map]
      rw [show (List.map ((fun i => f ((a :: r).getD i d)) ∘ Nat.succ) ((List.range r.length).filter fun i => q (r.getD i d))) = ((List.range r.length).filter fun i => q (r.getD i d)).map fun i => f (r.getD i d) from rfl, ih]
theorem all_list {α β : Type} (d : α) (l : List α) (f : α → β) : (List.range l.length).map (fun i => f (l.getD i d)) = l.map f := by
  have h := sel_list d l (fun _ => true) f
  rw [List.filter_eq_self.mpr fun _ _ => rfl, List.filter_eq_self.mpr fun _ _ => rfl] at h
  exact h
end BB
end
section
/-! The blocks of a row. -/
namespace BB
def blk : List Int → List (Int × Int)
  | [] => []
  | p :: r => match blk r with
    | [] => [(p, 1)]
    | (q, n) :: t => if q = p + 1 then (p, n + 1) :: t else (p, 1) :: (q, n) :: t
end BB
end
section
/-! Balls of a kind put ahead, held as pairs of a place and a kind. -/
namespace BB
set_option linter.unusedVariables false
/-- the first of b, b + 1, .. that is none of ks; n are looked at -/
def nxF : Nat → List Int → Int → Int
  | 0, _, b => b
  | n + 1, ks, b => if b ∈ ks then nxF n ks (b + 1) else b
def cnt (ks : List Int) (b : Int) : Nat := (ks.filter fun x => decide (b ≤ x)).length
theorem cnt_le (ks : List Int) (b : Int) : cnt ks b ≤ ks.length := List.length_filter_le _ _
theorem cnt_cons (x : Int) (ks : List Int) (b : Int) : cnt (x :: ks) b = (if b ≤ x then 1 else 0) + cnt ks b := by
  unfold cnt
  rw [List.filter_cons]
  by_cases c : b ≤ x
  · rw [if_pos (decide_eq_true c), if_pos c, List.length_cons]; omega
  · rw [if_neg (by rw [decide_eq_false c]; decide), if_neg c]; omega
theorem cnt_mono : ∀ (ks : List Int) (b : Int), cnt ks (b + 1) ≤ cnt ks b
  | [], _ => Nat.le_refl _
  | x :: ks, b => by
    have := cnt_mono ks b
    rw [cnt_cons, cnt_cons]
    split <;> split <;> omega
theorem cnt_step : ∀ (ks : List Int) (b : Int), b ∈ ks → cnt ks (b + 1) + 1 ≤ cnt ks b
  | x :: ks, b, h => by
    have m := cnt_mono ks b
    rw [cnt_cons, cnt_cons]
    rcases List.mem_cons.mp h with rfl | h
    · rw [if_neg (by omega), if_pos (by omega)]; omega
    · have := cnt_step ks b h
      split <;> split <;> omega
theorem nxF_out (n : Nat) {ks : List Int} {b : Int} (h : b ∉ ks) : nxF n ks b = b := by
  cases n with
  | zero => rfl
  | succ n => exact if_neg h
theorem nxF_in {n : Nat} {ks : List Int} {b : Int} (h : b ∈ ks) (hn : cnt ks b ≤ n) : ∃ m, n = m + 1 ∧ nxF n ks b = nxF m ks (b + 1) ∧ cnt ks (b + 1) ≤ m := by
  have := cnt_step ks b h
  cases n with
  | zero => omega
  | succ n => exact ⟨n, rfl, if_pos h, by omega⟩
theorem nxF_free : ∀ (n : Nat) (ks : List Int) (b : Int), cnt ks b ≤ n → nxF n ks b ∉ ks
  | n, ks, b, hn => by
    by_cases h : b ∈ ks
    · obtain ⟨m, e, e2, hm⟩ := nxF_in h hn
      subst e
      rw [e2]
      exact nxF_free m ks (b + 1) hm
    · rw [nxF_out n h]; exact h
abbrev Ps := List (Int × Int)
abbrev kys (dl : Ps) : List Int := dl.map (·.1)
def hop (dl : Ps) (p : Int) : Int := nxF dl.length (kys dl) (p + 1)
theorem hop_free (dl : Ps) (p : Int) : hop dl p ∉ kys dl := nxF_free _ _ _ (by have := cnt_le (kys dl) (p + 1); rw [List.length_map] at this; exact this)
def cut (dl : Ps) (p : Int) : Ps := dl.filter fun e => decide (e.1 ≠ p)
def mv1 (k : Int) (dl : Ps) (q : Int × Int) : Ps := if q.2 = k then cut dl q.1 ++ [(hop dl q.1, k)] else dl
def mvs (k : Int) (ml dl : Ps) : Ps := ml.foldl (mv1 k) dl
/-- pairs whose places rise -/
structure Mo (ml : Ps) : Prop where
  up : (kys ml).Pairwise (· < ·)
  len : ml.length ≤ 12
theorem Mo.nd {ml : Ps} (h : Mo ml) : (kys ml).Nodup := h.up.imp fun h => by omega
/-- while they are put ahead -/
structure Mi (ml : Ps) (i : Nat) (dl : Ps) : Prop where
  len : dl.length = ml.length
  nd : (kys dl).Nodup
  has : ∀ q ∈ ml.drop i, q.1 ∈ kys dl
theorem Mi.start {ml : Ps} (h : Mo ml) : Mi ml 0 ml := ⟨rfl, h.nd, fun q hq => List.mem_map_of_mem (f := (·.1)) hq⟩
theorem cut_kys (dl : Ps) (p : Int) : kys (cut dl p) = (kys dl).filter fun x => decide (x ≠ p) := by
  unfold cut kys
  rw [List.filter_map]; rfl
theorem cut_len : ∀ (dl : Ps) (p : Int), (kys dl).Nodup → p ∈ kys dl → (cut dl p).length + 1 = dl.length
  | e :: dl, p, nd, h => by
    obtain ⟨n1, n2⟩ := List.nodup_cons.mp nd
    have hc : cut (e :: dl) p = if e.1 ≠ p then e :: cut dl p else cut dl p := by
      unfold cut
      rw [List.filter_cons]
      by_cases c : e.1 ≠ p
      · rw [if_pos (decide_eq_true c), if_pos c]
      · rw [if_neg (by rw [decide_eq_false c]; decide), if_neg c]
    rw [hc]
    by_cases c : e.1 = p
    · rw [if_neg (by simpa using c), List.length_cons]
      have hn : p ∉ kys dl := by rw [← c]; exact n1
      have : cut dl p = dl := List.filter_eq_self.mpr fun x hx => decide_eq_true fun z => hn (by rw [← z]; exact List.mem_map_of_mem (f := (·.1)) hx)
      rw [this]
    · rw [if_pos c, List.length_cons, List.length_cons]
      have h' : p ∈ kys dl := by
        rcases List.mem_cons.mp h with z | z
        · exact absurd z.symm c
        · exact z
      have := cut_len dl p n2 h'
      omega
theorem Mi.step {ml dl : Ps} {i : Nat} (m : Mi ml i dl) (mo : Mo ml) (k : Int) (hi : i < ml.length) : Mi ml (i + 1) (mv1 k dl ml[i]) := by
  have ed : ml.drop i = ml[i] :: ml.drop (i + 1) := List.drop_eq_getElem_cons hi
  have hp : (ml[i]).1 ∈ kys dl := m.has _ (by rw [ed]; exact List.mem_cons_self)
  have rest : ∀ q ∈ ml.drop (i + 1), q.1 ∈ kys dl ∧ q.1 ≠ (ml[i]).1 := fun q hq => by
    refine ⟨m.has q (by rw [ed]; exact List.mem_cons_of_mem _ hq), fun z => ?_⟩
    have pw : (kys (ml.drop i)).Nodup := by
      have := mo.nd.sublist (List.drop_sublist i (kys ml))
      rw [show (kys ml).drop i = kys (ml.drop i) from List.map_drop.symm] at this
      exact this
    rw [ed] at pw
    exact (List.nodup_cons.mp pw).1 (by show (ml[i]).1 ∈ _; rw [← z]; exact List.mem_map_of_mem (f := (·.1)) hq)
  unfold mv1
  split
  · have cl := cut_len dl _ m.nd hp
    have hf := hop_free dl (ml[i]).1
    refine ⟨by rw [List.length_append, List.length_singleton]; have := m.len; omega, ?_, fun q hq => ?_⟩
    · unfold kys
      rw [List.map_append]
      refine List.nodup_append.mpr ⟨?_, List.pairwise_singleton _ _, fun a ha b hb => ?_⟩
      · have := cut_kys dl (ml[i]).1
        rw [show (cut dl (ml[i]).1).map (·.1) = kys (cut dl (ml[i]).1) from rfl, this]
        exact m.nd.sublist List.filter_sublist
      · have : b = hop dl (ml[i]).1 := by simpa using hb
        rw [this]
        intro z
        apply hf
        rw [← z]
        have ha' : a ∈ kys (cut dl (ml[i]).1) := ha
        rw [cut_kys] at ha'
        exact (List.mem_filter.mp ha').1
    · obtain ⟨h1, h2⟩ := rest q hq
      unfold kys
      rw [List.map_append]
      refine List.mem_append_left _ ?_
      show q.1 ∈ kys (cut dl (ml[i]).1)
      rw [cut_kys]
      exact List.mem_filter.mpr ⟨h1, decide_eq_true h2⟩
  · exact ⟨m.len, m.nd, fun q hq => (rest q hq).1⟩
def ins (q : Int × Int) : Ps → Ps
  | [] => [q]
  | e :: r => if q.1 ≤ e.1 then q :: e :: r else e :: ins q r
def isort : Ps → Ps
  | [] => []
  | q :: r => ins q (isort r)
theorem ins_perm (q : Int × Int) : ∀ r : Ps, (ins q r).Perm (q :: r)
  | [] => .refl _
  | e :: r => by
    show (if q.1 ≤ e.1 then q :: e :: r else e :: ins q r).Perm _
    split
    · exact .refl _
    · exact ((ins_perm q r).cons e).trans (List.Perm.swap q e r)
theorem isort_perm : ∀ r : Ps, (isort r).Perm r
  | [] => .refl _
  | q :: r => (ins_perm q (isort r)).trans ((isort_perm r).cons q)
theorem ins_up (q : Int × Int) : ∀ r : Ps, r.Pairwise (fun x y => x.1 < y.1) → q.1 ∉ kys r → (ins q r).Pairwise (fun x y => x.1 < y.1)
  | [], _, _ => List.pairwise_singleton _ _
  | e :: r, h, n => by
    obtain ⟨h1, h2⟩ := List.pairwise_cons.mp h
    have ne : q.1 ≠ e.1 := fun z => n (by rw [z]; exact List.mem_cons_self)
    show (if q.1 ≤ e.1 then q :: e :: r else e :: ins q r).Pairwise _
    split
    · refine List.pairwise_cons.mpr ⟨fun z hz => ?_, h⟩
      rcases List.mem_cons.mp hz with rfl | hz
      · omega
      · have := h1 z hz; omega
    · refine List.pairwise_cons.mpr ⟨fun z hz => ?_, ins_up q r h2 fun z => n (List.mem_cons_of_mem _ z)⟩
      rcases List.mem_cons.mp ((ins_perm q r).mem_iff.mp hz) with rfl | hz
      · omega
      · exact h1 z hz
theorem isort_up : ∀ r : Ps, (kys r).Nodup → (isort r).Pairwise (fun x y => x.1 < y.1)
  | [], _ => .nil
  | q :: r, nd => by
    obtain ⟨n1, n2⟩ := List.nodup_cons.mp nd
    refine ins_up q _ (isort_up r n2) fun z => n1 ?_
    exact ((isort_perm r).map (·.1)).mem_iff.mp z
theorem sort_one : ∀ (l r : Ps), l.Perm r → l.Pairwise (fun x y => x.1 < y.1) → r.Pairwise (fun x y => x.1 < y.1) → l = r
  | [], r, p, _, _ => (List.nil_perm.mp p).symm
  | a :: l, [], p, _, _ => absurd p.length_eq (by simp)
  | a :: l, b :: r, p, h1, h2 => by
    obtain ⟨u1, u2⟩ := List.pairwise_cons.mp h1
    obtain ⟨v1, v2⟩ := List.pairwise_cons.mp h2
    have ab : a = b := by
      rcases List.mem_cons.mp (p.mem_iff.mp (List.mem_cons_self (a := a) (l := l))) with z | z
      · exact z
      · rcases List.mem_cons.mp (p.symm.mem_iff.mp (List.mem_cons_self (a := b) (l := r))) with y | y
        · exact y.symm
        · have := v1 a z; have := u1 b y; omega
    subst ab
    rw [sort_one l r (List.Perm.cons_inv p) u2 v2]
theorem isort_one {l dl : Ps} (nd : (kys dl).Nodup) (p : l.Perm dl) (h : l.Pairwise (fun x y => x.1 < y.1)) : l = isort dl := sort_one _ _ (p.trans (isort_perm dl).symm) h (isort_up dl nd)
def kc (k : Int) (ml : Ps) : Ps := isort (mvs k ml ml)
theorem mvs_mi {ml : Ps} (mo : Mo ml) (k : Int) : ∀ i, i ≤ ml.length → Mi ml i (mvs k (ml.take i) ml)
  | 0, _ => Mi.start mo
  | i + 1, h => by
    have := (mvs_mi mo k i (by omega)).step mo k (by omega)
    rw [List.take_add_one, List.getElem?_eq_getElem (by omega)]
    show Mi ml (i + 1) (mvs k (ml.take i ++ [ml[i]]) ml)
    unfold mvs at this ⊢
    rw [List.foldl_append]
    exact this
theorem mvs_next {ml : Ps} (k : Int) {i : Nat} (h : i < ml.length) : mvs k (ml.take (i + 1)) ml = mv1 k (mvs k (ml.take i) ml) ml[i] := by
  rw [List.take_add_one, List.getElem?_eq_getElem h]
  show mvs k (ml.take i ++ [ml[i]]) ml = _
  unfold mvs
  rw [List.foldl_append]; rfl
theorem mvs_end {ml : Ps} (mo : Mo ml) (k : Int) : Mi ml ml.length (mvs k ml ml) := by
  have := mvs_mi mo k ml.length (Nat.le_refl _)
  rw [List.take_length] at this
  exact this
theorem kc_mo {ml : Ps} (mo : Mo ml) (k : Int) : Mo (kc k ml) := by
  have m := mvs_end mo k
  refine ⟨?_, ?_⟩
  · exact List.pairwise_map.mpr (isort_up _ m.nd)
  · have := (isort_perm (mvs k ml ml)).length_eq
    show (isort _).length ≤ 12
    rw [this, m.len]; exact mo.len
/-- turned about -/
def tn (ml : Ps) : Ps := ml.reverse.map fun q => (-q.1, q.2)
theorem tn_mo {ml : Ps} (mo : Mo ml) : Mo (tn ml) := by
  refine ⟨?_, by unfold tn; rw [List.length_map, List.length_reverse]; exact mo.len⟩
  show ((ml.reverse.map _).map _).Pairwise _
  rw [List.map_map, List.map_reverse, List.pairwise_reverse]
  refine List.pairwise_map.mpr ?_
  have := List.pairwise_map.mp mo.up
  exact this.imp fun {a b} h => by show -b.1 < -a.1; omega
def steps3 (ks : List Int) (ml : Ps) : Ps := ks.foldl (fun l k => kc k l) ml
theorem steps3_mo : ∀ (ks : List Int) {ml : Ps}, Mo ml → Mo (steps3 ks ml)
  | [], _, h => h
  | k :: ks, _, h => steps3_mo ks (kc_mo h k)
end BB
end
section
/-! Motley rows as words, box by box: 0 is an empty box. A step of a kind is a pass from left to right with a load. -/
namespace BB
set_option linter.all false
/-- the balls of a word that begins at x -/
def un : Int → List Int → Ps
  | _, [] => []
  | x, y :: r => if y = 0 then un (x + 1) r else (x, y) :: un (x + 1) r
/-- what is left in a box, and the load behind it -/
def lp (k : Int) (c : Nat) (y : Int) : Int × Nat := if y = k then (0, c + 1) else if y = 0 ∧ 0 < c then (k, c - 1) else (y, c)
def pas (k : Int) : Nat → List Int → List Int
  | _, [] => []
  | c, y :: r => (lp k c y).1 :: pas k (lp k c y).2 r
def lod (k : Int) : Nat → List Int → Nat
  | c, [] => c
  | c, y :: r => lod k (lp k c y).2 r
theorem lp_k (k : Int) (c : Nat) : lp k c k = (0, c + 1) := if_pos rfl
theorem lp_0 {k : Int} (h : k ≠ 0) (c : Nat) : lp k (c + 1) 0 = (k, c) := by
  unfold lp
  rw [if_neg (fun z => h z.symm), if_pos ⟨rfl, Nat.succ_pos c⟩]
  rfl
theorem lp_00 {k : Int} (h : k ≠ 0) : lp k 0 0 = (0, 0) := by
  unfold lp
  rw [if_neg (fun z => h z.symm), if_neg (fun z => absurd z.2 (Nat.lt_irrefl 0))]
theorem lp_o {k y : Int} (c : Nat) (h : y ≠ k) (h0 : y ≠ 0) : lp k c y = (y, c) := by
  unfold lp
  rw [if_neg h, if_neg (fun z => h0 z.1)]
theorem lp_back {k : Int} (h : k ≠ 0) (c : Nat) (y : Int) : lp k (lp k c y).2 (lp k c y).1 = (y, c) := by
  by_cases e : y = k
  · subst e
    rw [lp_k]
    exact lp_0 h c
  · by_cases z : y = 0
    · subst z
      cases c with
      | zero => rw [lp_00 h, lp_00 h]
      | succ c => rw [lp_0 h]; exact lp_k k c
    · rw [lp_o c e z, lp_o c e z]
theorem pas_app (k : Int) : ∀ (u v : List Int) (c : Nat), pas k c (u ++ v) = pas k c u ++ pas k (lod k c u) v ∧ lod k c (u ++ v) = lod k (lod k c u) v
  | [], v, c => ⟨rfl, rfl⟩
  | y :: u, v, c => by
    obtain ⟨a, b⟩ := pas_app k u v (lp k c y).2
    exact ⟨congrArg (List.cons _) a, b⟩
theorem pas_len (k : Int) : ∀ (c : Nat) (w : List Int), (pas k c w).length = w.length
  | _, [] => rfl
  | c, y :: r => congrArg (· + 1) (pas_len k _ r)
/-- from right to left it is undone -/
theorem pas_back {k : Int} (h : k ≠ 0) : ∀ (w : List Int) (c : Nat), pas k (lod k c w) (pas k c w).reverse = w.reverse ∧ lod k (lod k c w) (pas k c w).reverse = c
  | [], c => ⟨rfl, rfl⟩
  | y :: r, c => by
    obtain ⟨a, b⟩ := pas_back h r (lp k c y).2
    have e := lp_back h c y
    show pas k (lod k (lp k c y).2 r) ((lp k c y).1 :: pas k (lp k c y).2 r).reverse = (y :: r).reverse ∧ lod k (lod k (lp k c y).2 r) ((lp k c y).1 :: pas k (lp k c y).2 r).reverse = c
    rw [List.reverse_cons, List.reverse_cons]
    obtain ⟨p, q⟩ := pas_app k (pas k (lp k c y).2 r).reverse [(lp k c y).1] (lod k (lp k c y).2 r)
    rw [p, q, a, b]
    show r.reverse ++ [(lp k (lp k c y).2 (lp k c y).1).1] = _ ∧ (lp k (lp k c y).2 (lp k c y).1).2 = c
    rw [e]
    exact ⟨rfl, rfl⟩
def zer (w : List Int) : Nat := w.count 0
theorem lod_zer (k : Int) : ∀ (w : List Int) (c : Nat), c ≤ lod k c w + zer w
  | [], c => Nat.le_refl _
  | y :: r, c => by
    have a := lod_zer k r (lp k c y).2
    show c ≤ lod k (lp k c y).2 r + (y :: r).count 0
    rw [List.count_cons]
    unfold zer at a
    by_cases e : y = k
    · subst e
      rw [lp_k] at a ⊢
      have a : c + 1 ≤ lod y (c + 1) r + _ := a
      show c ≤ lod y (c + 1) r + _
      omega
    · unfold lp at a ⊢
      rw [if_neg e] at a ⊢
      by_cases z : y = 0 ∧ 0 < c
      · rw [if_pos z] at a ⊢
        have a : c - 1 ≤ lod k (c - 1) r + _ := a
        show c ≤ lod k (c - 1) r + _
        rw [if_pos (by rw [z.1]; rfl)]
        omega
      · rw [if_neg z] at a ⊢
        have a : c ≤ lod k c r + _ := a
        show c ≤ lod k c r + _
        omega
/-- the first c empty boxes filled -/
def fil (k : Int) : Nat → List Int → List Int
  | 0, w => w
  | _ + 1, [] => []
  | c + 1, y :: r => if y = 0 then k :: fil k c r else y :: fil k (c + 1) r
theorem fil_0 (k : Int) (w : List Int) : fil k 0 w = w := by cases w <;> rfl
theorem fil_z (k : Int) (c : Nat) (r : List Int) : fil k (c + 1) (0 :: r) = k :: fil k c r := if_pos rfl
theorem fil_o {y : Int} (k : Int) (c : Nat) (r : List Int) (h : y ≠ 0) : fil k c (y :: r) = y :: fil k c r := by
  cases c with
  | zero => rw [fil_0, fil_0]
  | succ c => exact if_neg h
theorem fil_next {k : Int} (h : k ≠ 0) : ∀ (w : List Int) (c : Nat), c + 1 ≤ zer w → ∃ u v, fil k c w = u ++ 0 :: v ∧ (∀ y ∈ u, y ≠ 0) ∧ fil k (c + 1) w = u ++ k :: v
  | [], c, hz => by cases hz
  | y :: r, c, hz => by
    unfold zer at hz
    rw [List.count_cons] at hz
    by_cases z : y = 0
    · subst z
      rw [if_pos (by rfl)] at hz
      cases c with
      | zero =>
        refine ⟨[], r, fil_0 k _, fun y hy => absurd hy List.not_mem_nil, ?_⟩
        rw [fil_z, fil_0]
        rfl
      | succ c =>
        obtain ⟨u, v, a, b, d⟩ := fil_next h r c (by unfold zer; omega)
        refine ⟨k :: u, v, by rw [fil_z, a]; rfl, fun y hy => ?_, by rw [fil_z, d]; rfl⟩
        rcases List.mem_cons.mp hy with rfl | hy
        · exact h
        · exact b y hy
    · rw [if_neg (by simpa using z)] at hz
      obtain ⟨u, v, a, b, d⟩ := fil_next h r c (by unfold zer; omega)
      refine ⟨y :: u, v, by rw [fil_o k c r z, a]; rfl, fun x hx => ?_, by rw [fil_o k (c + 1) r z, d]; rfl⟩
      rcases List.mem_cons.mp hx with rfl | hx
      · exact z
      · exact b x hx
theorem un_app : ∀ (u v : List Int) (x : Int), un x (u ++ v) = un x u ++ un (x + (u.length : Int)) v
  | [], v, x => by
    show un x v = un (x + (0 : Int)) v
    rw [Int.add_zero]
  | y :: u, v, x => by
    have e : x + 1 + (u.length : Int) = x + ((y :: u).length : Int) := by
      rw [List.length_cons]
      omega
    have a := un_app u v (x + 1)
    rw [e] at a
    show (if y = 0 then un (x + 1) (u ++ v) else (x, y) :: un (x + 1) (u ++ v)) = (if y = 0 then un (x + 1) u else (x, y) :: un (x + 1) u) ++ _
    rw [a]
    split <;> rfl
theorem un_zero (x : Int) : ∀ n : Nat, un x (List.replicate n 0) = []
  | 0 => rfl
  | n + 1 => by
    rw [List.replicate_succ]
    show (if (0 : Int) = 0 then un (x + 1) (List.replicate n 0) else _) = []
    rw [if_pos rfl, un_zero (x + 1) n]
theorem un_c0 (x : Int) (r : List Int) : un x (0 :: r) = un (x + 1) r := if_pos rfl
theorem un_c {y : Int} (x : Int) (r : List Int) (h : y ≠ 0) : un x (y :: r) = (x, y) :: un (x + 1) r := if_neg h
theorem un_ge : ∀ (w : List Int) (x : Int), ∀ q ∈ un x w, x ≤ q.1 ∧ q.1 < x + (w.length : Int) ∧ q.2 ≠ 0
  | [], x, q, h => absurd h List.not_mem_nil
  | y :: r, x, q, h => by
    rw [List.length_cons]
    by_cases z : y = 0
    · subst z
      rw [un_c0] at h
      have := un_ge r (x + 1) q h
      omega
    · rw [un_c x r z] at h
      rcases List.mem_cons.mp h with rfl | h
      · refine ⟨Int.le_refl _, ?_, z⟩
        show x < _
        omega
      · have := un_ge r (x + 1) q h
        omega
theorem un_up : ∀ (w : List Int) (x : Int), (un x w).Pairwise (fun a b => a.1 < b.1)
  | [], x => .nil
  | y :: r, x => by
    by_cases z : y = 0
    · subst z
      rw [un_c0]
      exact un_up r (x + 1)
    · rw [un_c x r z]
      refine List.pairwise_cons.mpr ⟨fun q hq => ?_, un_up r (x + 1)⟩
      have := un_ge r (x + 1) q hq
      show x < q.1
      omega
/-- every motley row is a word's, and the word may end with as many empty boxes as one likes -/
theorem un_ex : ∀ (ml : Ps) (x : Int), ml.Pairwise (fun a b => a.1 < b.1) → (∀ q ∈ ml, x ≤ q.1 ∧ q.2 ≠ 0) → ∃ w, ml = un x w
  | [], x, _, _ => ⟨[], rfl⟩
  | q :: r, x, up, h => by
    obtain ⟨u1, u2⟩ := List.pairwise_cons.mp up
    obtain ⟨hq, h0⟩ := h q List.mem_cons_self
    obtain ⟨w, hw⟩ := un_ex r (q.1 + 1) u2 fun z hz => ⟨by have := u1 z hz; omega, (h z (List.mem_cons_of_mem _ hz)).2⟩
    refine ⟨List.replicate (q.1 - x).toNat 0 ++ q.2 :: w, ?_⟩
    rw [un_app, un_zero, List.length_replicate, List.nil_append, show x + ((q.1 - x).toNat : Int) = q.1 by omega, un_c _ _ h0, ← hw]
theorem un_end (x : Int) (w : List Int) (n : Nat) : un x (w ++ List.replicate n 0) = un x w := by rw [un_app, un_zero, List.append_nil]
theorem nxF_is {ks : List Int} : ∀ (j n : Nat) (b : Int), cnt ks b ≤ n → (∀ i : Nat, i < j → b + (i : Int) ∈ ks) → b + (j : Int) ∉ ks → nxF n ks b = b + (j : Int)
  | 0, n, b, _, _, out => by
    have e : b + ((0 : Nat) : Int) = b := by omega
    rw [e] at out ⊢
    exact nxF_out n out
  | j + 1, n, b, hn, inn, out => by
    have h := inn 0 (Nat.succ_pos j)
    have e : b + ((0 : Nat) : Int) = b := by omega
    rw [e] at h
    obtain ⟨m, rfl, e2, hm⟩ := nxF_in h hn
    rw [e2, nxF_is j m (b + 1) hm (fun i hi => by have := inn (i + 1) (by omega); rwa [show b + 1 + (i : Int) = b + ((i + 1 : Nat) : Int) by omega]) (by rwa [show b + 1 + (j : Int) = b + ((j + 1 : Nat) : Int) by omega])]
    omega
theorem un_full : ∀ (u : List Int) (x : Int), (∀ y ∈ u, y ≠ 0) → ∀ i : Nat, i < u.length → x + (i : Int) ∈ kys (un x u)
  | [], x, _, i, hi => by cases hi
  | y :: u, x, h, i, hi => by
    rw [un_c x u (h y List.mem_cons_self)]
    cases i with
    | zero =>
      rw [show x + ((0 : Nat) : Int) = x by omega]
      exact List.mem_cons_self
    | succ i =>
      refine List.mem_cons_of_mem _ ?_
      have := un_full u (x + 1) (fun z hz => h z (List.mem_cons_of_mem _ hz)) i (by rw [List.length_cons] at hi; omega)
      rwa [show x + 1 + (i : Int) = x + ((i + 1 : Nat) : Int) by omega] at this
/-- balls put ahead, ball by ball, are a pass -/
theorem mvs_pas {k : Int} (h : k ≠ 0) : ∀ (w : List Int) (x : Int) (c : Nat) (dl dn : Ps), lod k c w = 0 → dl.Perm (dn ++ un x (fil k c w)) → (∀ q ∈ dn, q.1 < x) → (mvs k (un x w) dl).Perm (dn ++ un x (pas k c w))
  | [], x, c, dl, dn, hl, p, _ => by
    have c0 : c = 0 := hl
    subst c0
    exact p
  | y :: r, x, c, dl, dn, hl, p, lt => by
    have lt' : ∀ z : Int, ∀ q ∈ dn ++ [(x, z)], q.1 < x + 1 := fun z q hq => by
      rcases List.mem_append.mp hq with a | a
      · have := lt q a
        omega
      · rw [List.mem_singleton.mp a]
        show x < x + 1
        omega
    by_cases e : y = k
    · subst e
      have hl : lod y (lp y c y).2 r = 0 := hl
      rw [lp_k] at hl
      have hl : lod y (c + 1) r = 0 := hl
      rw [un_c x r h]
      show (mvs y (un (x + 1) r) (mv1 y dl (x, y))).Perm _
      rw [fil_o y c r h, un_c x _ h] at p
      have zz := lod_zer y r (c + 1)
      rw [hl, Nat.zero_add] at zz
      obtain ⟨u, v, fu, f0, fv⟩ := fil_next h r c zz
      have out : ∀ q ∈ un (x + 1) (fil y c r), q.1 ≠ x := fun q hq => by
        have := (un_ge _ _ q hq).1
        omega
      have hk : (kys dl).Perm (kys dn ++ x :: kys (un (x + 1) (u ++ 0 :: v))) := by
        have := p.map (·.1)
        rw [List.map_append, List.map_cons, fu] at this
        exact this
      have hp : hop dl x = x + 1 + (u.length : Int) := by
        unfold hop
        refine nxF_is u.length _ (x + 1) (by have := cnt_le (kys dl) (x + 1); rw [List.length_map] at this; exact this) (fun i hi => ?_) (fun z => ?_)
        · refine hk.mem_iff.mpr (List.mem_append_right _ (List.mem_cons_of_mem _ ?_))
          rw [un_app]
          unfold kys
          rw [List.map_append]
          exact List.mem_append_left _ (un_full u (x + 1) f0 i hi)
        · rcases List.mem_append.mp (hk.mem_iff.mp z) with a | a
          · obtain ⟨q, hq, eq⟩ := List.mem_map.mp a
            have := lt q hq
            omega
          · rcases List.mem_cons.mp a with a | a
            · omega
            · rw [un_app, un_c0] at a
              unfold kys at a
              rw [List.map_append] at a
              rcases List.mem_append.mp a with a | a
              · obtain ⟨q, hq, eq⟩ := List.mem_map.mp a
                have := un_ge _ _ q hq
                omega
              · obtain ⟨q, hq, eq⟩ := List.mem_map.mp a
                have := un_ge _ _ q hq
                omega
      have cu : (cut dl x).Perm (dn ++ un (x + 1) (fil y c r)) := by
        unfold cut
        have a := p.filter fun e => decide (e.1 ≠ x)
        have b : (dn ++ (x, y) :: un (x + 1) (fil y c r)).filter (fun e => decide (e.1 ≠ x)) = dn ++ un (x + 1) (fil y c r) := by
          rw [List.filter_append, List.filter_cons, if_neg (by simp)]
          congr 1
          · rw [List.filter_eq_self]
            intro q hq
            have := lt q hq
            rw [decide_eq_true_iff]
            omega
          · rw [List.filter_eq_self]
            intro q hq
            rw [decide_eq_true_iff]
            exact out q hq
        rw [b] at a
        exact a
      have nx : (mv1 y dl (x, y)).Perm (dn ++ un (x + 1) (fil y (c + 1) r)) := by
        unfold mv1
        rw [if_pos rfl]
        show (cut dl x ++ [(hop dl x, y)]).Perm _
        rw [hp, fv, un_app, un_c _ v h]
        rw [fu, un_app, un_c0] at cu
        refine (cu.append_right _).trans ?_
        rw [List.append_assoc, List.append_assoc]
        exact ((List.perm_append_comm (l₁ := un (x + 1 + (u.length : Int) + 1) v) (l₂ := [(x + 1 + (u.length : Int), y)])).append_left _).append_left _
      have ih := mvs_pas h r (x + 1) (c + 1) _ dn hl nx fun q hq => by
        have := lt q hq
        omega
      refine ih.trans ?_
      show (dn ++ un (x + 1) (pas y (c + 1) r)).Perm (dn ++ un x ((lp y c y).1 :: pas y (lp y c y).2 r))
      rw [lp_k]
      show (dn ++ un (x + 1) (pas y (c + 1) r)).Perm (dn ++ un x (0 :: pas y (c + 1) r))
      rw [un_c0]
    · by_cases z : y = 0
      · subst z
        rw [un_c0]
        have hl : lod k (lp k c 0).2 r = 0 := hl
        show (mvs k (un (x + 1) r) dl).Perm (dn ++ un x ((lp k c 0).1 :: pas k (lp k c 0).2 r))
        cases c with
        | zero =>
          rw [lp_00 h] at hl ⊢
          rw [fil_0, un_c0] at p
          have ih := mvs_pas h r (x + 1) 0 dl dn hl (by rw [fil_0]; exact p) fun q hq => by
            have := lt q hq
            omega
          refine ih.trans ?_
          show (dn ++ un (x + 1) (pas k 0 r)).Perm (dn ++ un x (0 :: pas k 0 r))
          rw [un_c0]
        | succ c =>
          rw [lp_0 h] at hl ⊢
          rw [fil_z, un_c x _ h] at p
          have ih := mvs_pas h r (x + 1) c dl (dn ++ [(x, k)]) hl (by rw [List.append_assoc]; exact p) (lt' k)
          refine ih.trans ?_
          show (dn ++ [(x, k)] ++ un (x + 1) (pas k c r)).Perm (dn ++ un x (k :: pas k c r))
          rw [un_c x _ h, List.append_assoc]
          rfl
      · rw [un_c x r z]
        have hl : lod k (lp k c y).2 r = 0 := hl
        show (mvs k (un (x + 1) r) (mv1 k dl (x, y))).Perm (dn ++ un x ((lp k c y).1 :: pas k (lp k c y).2 r))
        rw [lp_o c e z] at hl ⊢
        rw [fil_o k c r z, un_c x _ z] at p
        have m : mv1 k dl (x, y) = dl := if_neg e
        rw [m]
        have ih := mvs_pas h r (x + 1) c dl (dn ++ [(x, y)]) hl (by rw [List.append_assoc]; exact p) (lt' y)
        refine ih.trans ?_
        show (dn ++ [(x, y)] ++ un (x + 1) (pas k c r)).Perm (dn ++ un x (y :: pas k c r))
        rw [un_c x _ z, List.append_assoc]
        rfl
/-- a step of a kind is a pass -/
theorem kc_pas {k : Int} (h : k ≠ 0) {x : Int} {w : List Int} (hl : lod k 0 w = 0) : kc k (un x w) = un x (pas k 0 w) := by
  have p := mvs_pas h w x 0 (un x w) [] hl (by rw [fil_0]; exact List.Perm.refl _) fun q hq => absurd hq List.not_mem_nil
  rw [List.nil_append] at p
  have nd : (kys (mvs k (un x w) (un x w))).Nodup := by
    have up : (kys (un x (pas k 0 w))).Pairwise (· < ·) := List.pairwise_map.mpr (un_up (pas k 0 w) x)
    have nd : (kys (un x (pas k 0 w))).Nodup := up.imp fun h => by omega
    exact (p.map (fun q : Int × Int => q.1)).nodup_iff.mpr nd
  exact (isort_one nd p.symm (un_up _ _)).symm
end BB
end
section
/-! Numbers put into rows, row by row. -/
namespace BB
set_option linter.unusedVariables false
def low (r : List Int) (x : Int) : Nat := (r.filter fun y => decide (y ≤ x)).length
/-- x put into the rows -/
def put : List (List Int) → Int → List (List Int)
  | [], x => [[x]]
  | r :: rs, x => if low r x = r.length then (r ++ [x]) :: rs else (r.take (low r x) ++ [x] ++ r.drop (low r x + 1)) :: put rs (r.getD (low r x) 0)
def Up (r : List Int) : Prop := r.Pairwise (· ≤ ·)
theorem low_le (r : List Int) (x : Int) : low r x ≤ r.length := List.length_filter_le _ _
theorem low_cons (y : Int) (r : List Int) (x : Int) : low (y :: r) x = if y ≤ x then low r x + 1 else low r x := by
  unfold low
  rw [List.filter_cons]
  by_cases c : y ≤ x
  · rw [if_pos (decide_eq_true c), if_pos c]; rfl
  · rw [if_neg (by rw [decide_eq_false c]; decide), if_neg c]
theorem low_all (x : Int) : ∀ r : List Int, (∀ y ∈ r, x < y) → low r x = 0
  | [], _ => rfl
  | y :: r, h => by
    rw [low_cons, if_neg (by have := h y List.mem_cons_self; omega)]
    exact low_all x r fun z hz => h z (List.mem_cons_of_mem _ hz)
/-- ahead of that place none is greater, from there on all are -/
theorem low_at (x : Int) : ∀ (r : List Int), Up r → ∀ i, i < r.length → (x < r.getD i 0 ↔ low r x ≤ i)
  | [], _, i, h => by cases h
  | y :: r, u, i, h => by
    obtain ⟨h1, h2⟩ := List.pairwise_cons.mp u
    rw [low_cons]
    by_cases c : y ≤ x
    · rw [if_pos c]
      cases i with
      | zero =>
        show x < y ↔ _
        omega
      | succ i =>
        show x < r.getD i 0 ↔ _
        rw [low_at x r h2 i (by simpa using h)]
        omega
    · rw [if_neg c]
      have a : ∀ z ∈ y :: r, x < z := fun z hz => by
        rcases List.mem_cons.mp hz with rfl | hz
        · omega
        · have := h1 z hz; omega
      rw [low_all x r fun z hz => a z (List.mem_cons_of_mem _ hz)]
      have : x < (y :: r).getD i 0 := by
        rw [List.getD_eq_getElem?_getD, List.getElem?_eq_getElem h]
        exact a _ (List.getElem_mem h)
      exact ⟨fun _ => Nat.zero_le _, fun _ => this⟩
/-- the places of the greater ones -/
def hits (r : List Int) (x : Int) : List Nat := (List.range r.length).filter fun i => decide (x < r.getD i 0)
theorem hits_low {r : List Int} {x : Int} (u : Up r) : (hits r x = [] ∧ low r x = r.length) ∨ (∃ t, hits r x = low r x :: t ∧ low r x < r.length) := by
  have hm : ∀ i, i ∈ hits r x ↔ i < r.length ∧ low r x ≤ i := fun i => by
    unfold hits
    rw [List.mem_filter, List.mem_range]
    constructor
    · rintro ⟨a, b⟩
      exact ⟨a, (low_at x r u i a).mp (of_decide_eq_true b)⟩
    · rintro ⟨a, b⟩
      exact ⟨a, decide_eq_true ((low_at x r u i a).mpr b)⟩
  have hp : (hits r x).Pairwise (· < ·) := List.Pairwise.filter _ List.pairwise_lt_range
  have ll := low_le r x
  cases e : hits r x with
  | nil =>
    refine .inl ⟨rfl, ?_⟩
    by_cases c : low r x = r.length
    · exact c
    · have := (hm (low r x)).mpr ⟨by omega, Nat.le_refl _⟩
      rw [e] at this
      cases this
  | cons i t =>
    have hi := (hm i).mp (by rw [e]; exact List.mem_cons_self)
    have hl := (hm (low r x)).mpr ⟨by omega, Nat.le_refl _⟩
    rw [e] at hl hp
    refine .inr ⟨t, ?_, by omega⟩
    rcases List.mem_cons.mp hl with z | z
    · rw [z]
    · have := (List.pairwise_cons.mp hp).1 _ z
      omega
theorem up_end {r : List Int} {x : Int} (u : Up r) (h : low r x = r.length) : Up (r ++ [x]) := by
  refine List.pairwise_append.mpr ⟨u, List.pairwise_singleton _ _, fun y hy z hz => ?_⟩
  rw [List.mem_singleton.mp hz]
  obtain ⟨i, hi, rfl⟩ := List.getElem_of_mem hy
  have := low_at x r u i hi
  rw [List.getD_eq_getElem?_getD, List.getElem?_eq_getElem hi] at this
  have t : ¬ x < r[i] := fun z => by have := this.mp z; omega
  omega
theorem up_in {r : List Int} {x : Int} (u : Up r) : Up (r.take (low r x) ++ [x] ++ r.drop (low r x + 1)) := by
  have ta : ∀ y ∈ r.take (low r x), y ≤ x := fun y hy => by
    obtain ⟨i, hi, rfl⟩ := List.getElem_of_mem hy
    rw [List.length_take] at hi
    rw [List.getElem_take]
    have := low_at x r u i (by omega)
    rw [List.getD_eq_getElem?_getD, List.getElem?_eq_getElem (by omega)] at this
    have t : ¬ x < r[i] := fun z => by have := this.mp z; omega
    omega
  have td : ∀ y ∈ r.drop (low r x + 1), x < y := fun y hy => by
    obtain ⟨i, hi, rfl⟩ := List.getElem_of_mem hy
    rw [List.length_drop] at hi
    rw [List.getElem_drop]
    have := low_at x r u (low r x + 1 + i) (by omega)
    rw [List.getD_eq_getElem?_getD, List.getElem?_eq_getElem (by omega)] at this
    exact this.mpr (by omega)
  refine List.pairwise_append.mpr ⟨List.pairwise_append.mpr ⟨List.Pairwise.sublist (List.take_sublist _ _) u, List.pairwise_singleton _ _, fun y hy z hz => ?_⟩, List.Pairwise.sublist (List.drop_sublist _ _) u, fun y hy z hz => ?_⟩
  · rw [List.mem_singleton.mp hz]; exact ta y hy
  · have := td z hz
    rcases List.mem_append.mp hy with h | h
    · have := ta y h; omega
    · rw [List.mem_singleton.mp h]; omega
/-- rows that never fall, m of them at most, m long at most -/
structure Tab (m : Nat) (rs : List (List Int)) : Prop where
  few : rs.length ≤ m
  up : ∀ r ∈ rs, Up r
  len : ∀ r ∈ rs, r.length ≤ m
theorem Tab.nil : Tab 0 [] := ⟨Nat.le_refl _, (fun r h => absurd h List.not_mem_nil), (fun r h => absurd h List.not_mem_nil)⟩
theorem Tab.mono {m n : Nat} {rs : List (List Int)} (h : Tab m rs) (l : m ≤ n) : Tab n rs := ⟨Nat.le_trans h.few l, h.up, fun r hr => Nat.le_trans (h.len r hr) l⟩
theorem put_len : ∀ (rs : List (List Int)) (x : Int), (put rs x).length ≤ rs.length + 1
  | [], x => Nat.le_refl _
  | r :: rs, x => by
    show (if low r x = r.length then (r ++ [x]) :: rs else (r.take (low r x) ++ [x] ++ r.drop (low r x + 1)) :: put rs (r.getD (low r x) 0)).length ≤ _
    split
    · simp
    · have := put_len rs (r.getD (low r x) 0)
      simp only [List.length_cons]; omega
theorem put_mem (m : Nat) : ∀ (rs : List (List Int)) (x : Int), (∀ r ∈ rs, Up r ∧ r.length ≤ m) → ∀ r ∈ put rs x, Up r ∧ r.length ≤ m + 1
  | [], x, _, r, hr => by
    have : r = [x] := by simpa [put] using hr
    rw [this]
    exact ⟨List.pairwise_singleton _ _, by simp⟩
  | r0 :: rs, x, h, r, hr => by
    have h0 := h r0 List.mem_cons_self
    have hr' : r ∈ (if low r0 x = r0.length then (r0 ++ [x]) :: rs else (r0.take (low r0 x) ++ [x] ++ r0.drop (low r0 x + 1)) :: put rs (r0.getD (low r0 x) 0)) := hr
    split at hr'
    · rcases List.mem_cons.mp hr' with rfl | z
      · exact ⟨up_end h0.1 ‹_›, by rw [List.length_append, List.length_singleton]; omega⟩
      · have := h r (List.mem_cons_of_mem _ z)
        exact ⟨this.1, by omega⟩
    · rcases List.mem_cons.mp hr' with rfl | z
      · have := low_le r0 x
        exact ⟨up_in h0.1, by rw [List.length_append, List.length_append, List.length_take, List.length_drop, List.length_singleton]; omega⟩
      · exact put_mem m rs _ (fun r hr => h r (List.mem_cons_of_mem _ hr)) r z
theorem Tab.put {m : Nat} {rs : List (List Int)} (h : Tab m rs) (x : Int) : Tab (m + 1) (put rs x) :=
  ⟨Nat.le_trans (put_len rs x) (Nat.succ_le_succ h.few), fun r hr => (put_mem m rs x (fun r hr => ⟨h.up r hr, h.len r hr⟩) r hr).1, fun r hr => (put_mem m rs x (fun r hr => ⟨h.up r hr, h.len r hr⟩) r hr).2⟩
/-- all numbers put in, one behind another -/
def puts (ks : List Int) : List (List Int) := ks.foldl put []
theorem puts_snoc (ks : List Int) (x : Int) : puts (ks ++ [x]) = put (puts ks) x := by
  unfold puts
  rw [List.foldl_append]; rfl
theorem puts_tab : ∀ (n : Nat) (ks : List Int), Tab (ks.take n).length (puts (ks.take n))
  | 0, ks => Tab.nil
  | n + 1, ks => by
    rw [List.take_succ]
    cases e : ks[n]? with
    | none => simpa using puts_tab n ks
    | some x =>
      show Tab ((ks.take n) ++ [x]).length (puts (ks.take n ++ [x]))
      rw [puts_snoc, List.length_append, List.length_singleton]
      exact (puts_tab n ks).put x
theorem set_low {r : List Int} {n : Nat} {x : Int} (h : n < r.length) : r.set n x = r.take n ++ [x] ++ r.drop (n + 1) := by
  rw [List.set_eq_take_append_cons_drop, if_pos h, List.append_assoc]; rfl
end BB
end
section
/-! The lists that stay: kinds put in row by row, by counts; a step of all kinds keeps them. -/
namespace BB
set_option linter.all false
/-- how many 1, 2, 3 in the first row, 2, 3 in the second, 3 in the third -/
structure T6 where
  a : Nat
  b : Nat
  c : Nat
  d : Nat
  e : Nat
  f : Nat
def q1 : T6 → T6
  | ⟨a, b + 1, c, d, 0, f⟩ => ⟨a + 1, b, c, d + 1, 0, f⟩
  | ⟨a, b + 1, c, d, e + 1, f⟩ => ⟨a + 1, b, c, d + 1, e, f + 1⟩
  | ⟨a, 0, c + 1, d, e, f⟩ => ⟨a + 1, 0, c, d, e + 1, f⟩
  | ⟨a, 0, 0, d, e, f⟩ => ⟨a + 1, 0, 0, d, e, f⟩
def q2 : T6 → T6
  | ⟨a, b, 0, d, e, f⟩ => ⟨a, b + 1, 0, d, e, f⟩
  | ⟨a, b, c + 1, d, e, f⟩ => ⟨a, b + 1, c, d, e + 1, f⟩
def q3 : T6 → T6
  | ⟨a, b, c, d, e, f⟩ => ⟨a, b, c + 1, d, e, f⟩
theorem k121 : ∀ t, q1 (q2 (q1 t)) = q1 (q1 (q2 t)) := by
  rintro ⟨a, _ | _ | b, _ | _ | c, d, _ | _ | e, f⟩ <;> rfl
theorem k131 : ∀ t, q1 (q3 (q1 t)) = q1 (q1 (q3 t)) := by
  rintro ⟨a, _ | _ | b, _ | _ | c, d, _ | _ | e, f⟩ <;> rfl
theorem k132 : ∀ t, q2 (q3 (q1 t)) = q2 (q1 (q3 t)) := by
  rintro ⟨a, _ | _ | b, _ | _ | c, d, _ | _ | e, f⟩ <;> rfl
theorem k232 : ∀ t, q2 (q3 (q2 t)) = q2 (q2 (q3 t)) := by
  rintro ⟨a, _ | _ | b, _ | _ | c, d, _ | _ | e, f⟩ <;> rfl
theorem k221 : ∀ t, q1 (q2 (q2 t)) = q2 (q1 (q2 t)) := by
  rintro ⟨a, _ | _ | b, _ | _ | c, d, _ | _ | e, f⟩ <;> rfl
theorem k331 : ∀ t, q1 (q3 (q3 t)) = q3 (q1 (q3 t)) := by
  rintro ⟨a, _ | _ | b, _ | _ | c, d, _ | _ | e, f⟩ <;> rfl
theorem k231 : ∀ t, q1 (q3 (q2 t)) = q3 (q1 (q2 t)) := by
  rintro ⟨a, _ | _ | b, _ | _ | c, d, _ | _ | e, f⟩ <;> rfl
theorem k332 : ∀ t, q2 (q3 (q3 t)) = q3 (q2 (q3 t)) := by
  rintro ⟨a, _ | _ | b, _ | _ | c, d, _ | _ | e, f⟩ <;> rfl
/-- f again and again -/
def itF (f : T6 → T6) : Nat → T6 → T6
  | 0, t => t
  | n + 1, t => itF f n (f t)
theorem itF_out (f : T6 → T6) : ∀ (n : Nat) (t : T6), itF f n (f t) = f (itF f n t)
  | 0, _ => rfl
  | n + 1, t => itF_out f n (f t)
theorem m331 : ∀ (r : Nat) (t : T6), q1 (itF q3 r (q3 t)) = itF q3 r (q1 (q3 t))
  | 0, _ => rfl
  | r + 1, t => by
    show q1 (itF q3 r (q3 (q3 t))) = itF q3 r (q3 (q1 (q3 t)))
    rw [m331 r (q3 t), k331]
theorem m231 : ∀ (r : Nat) (t : T6), q1 (itF q3 r (q2 t)) = itF q3 r (q1 (q2 t))
  | 0, _ => rfl
  | r + 1, t => by
    show q1 (itF q3 r (q3 (q2 t))) = itF q3 r (q3 (q1 (q2 t)))
    rw [m331 r (q2 t), k231]
theorem m221 : ∀ (r : Nat) (t : T6), q1 (itF q2 r (q2 t)) = itF q2 r (q1 (q2 t))
  | 0, _ => rfl
  | r + 1, t => by
    show q1 (itF q2 r (q2 (q2 t))) = itF q2 r (q2 (q1 (q2 t)))
    rw [m221 r (q2 t), k221]
theorem m332 : ∀ (r : Nat) (t : T6), q2 (itF q3 r (q3 t)) = itF q3 r (q2 (q3 t))
  | 0, _ => rfl
  | r + 1, t => by
    show q2 (itF q3 r (q3 (q3 t))) = itF q3 r (q3 (q2 (q3 t)))
    rw [m332 r (q3 t), k332]
theorem n121 : ∀ (p : Nat) (t : T6), q1 (q2 (itF q1 p t)) = itF q1 p (q1 (q2 t))
  | 0, _ => rfl
  | p + 1, t => by
    show q1 (q2 (itF q1 p (q1 t))) = itF q1 p (q1 (q1 (q2 t)))
    rw [n121 p (q1 t), k121]
theorem n131 : ∀ (p : Nat) (t : T6), q1 (q3 (itF q1 p t)) = itF q1 p (q1 (q3 t))
  | 0, _ => rfl
  | p + 1, t => by
    show q1 (q3 (itF q1 p (q1 t))) = itF q1 p (q1 (q1 (q3 t)))
    rw [n131 p (q1 t), k131]
theorem n232 : ∀ (p : Nat) (t : T6), q2 (q3 (itF q2 p t)) = itF q2 p (q2 (q3 t))
  | 0, _ => rfl
  | p + 1, t => by
    show q2 (q3 (itF q2 p (q2 t))) = itF q2 p (q2 (q2 (q3 t)))
    rw [n232 p (q2 t), k232]
theorem n132 : ∀ (p : Nat) (t : T6), q2 (q3 (itF q1 p t)) = q2 (itF q1 p (q3 t))
  | 0, _ => rfl
  | p + 1, t => by
    show q2 (q3 (itF q1 p (q1 t))) = q2 (itF q1 p (q1 (q3 t)))
    rw [n132 p (q1 t)]
    cases p with
    | zero => exact k132 t
    | succ p =>
      show q2 (itF q1 p (q1 (q3 (q1 t)))) = q2 (itF q1 p (q1 (q1 (q3 t))))
      rw [k131]
def qI (x : Int) (t : T6) : T6 := if x = 1 then q1 t else if x = 2 then q2 t else if x = 3 then q3 t else t
def qW (w : List Int) (t : T6) : T6 := w.foldl (fun t x => qI x t) t
/-- the loads put in: 1s, then 2s, then 3s -/
def cW (p q r : Nat) (t : T6) : T6 := itF q3 r (itF q2 q (itF q1 p t))
theorem c_1_2 (p q r : Nat) (t : T6) : q1 (cW p (q + 1) r t) = cW (p + 1) q r (q2 t) := by
  unfold cW
  show q1 (itF q3 r (itF q2 q (q2 (itF q1 p t)))) = itF q3 r (itF q2 q (itF q1 p (q1 (q2 t))))
  rw [itF_out q2 q, m231, ← itF_out q2 q, m221, n121]
theorem c_1_3 (p r : Nat) (t : T6) : q1 (cW p 0 (r + 1) t) = cW (p + 1) 0 r (q3 t) := by
  unfold cW
  show q1 (itF q3 r (q3 (itF q1 p t))) = itF q3 r (itF q1 p (q1 (q3 t)))
  rw [m331, n131]
theorem c_1_0 (p : Nat) (t : T6) : q1 (cW p 0 0 t) = cW (p + 1) 0 0 t := (itF_out q1 p t).symm
theorem c_2_3 (p q r : Nat) (t : T6) : q2 (cW p q (r + 1) t) = cW p (q + 1) r (q3 t) := by
  unfold cW
  show q2 (itF q3 r (q3 (itF q2 q (itF q1 p t)))) = itF q3 r (itF q2 q (q2 (itF q1 p (q3 t))))
  rw [m332, n232, n132]
theorem c_2_0 (p q : Nat) (t : T6) : q2 (cW p q 0 t) = cW p (q + 1) 0 t := (itF_out q2 q _).symm
theorem c_3_0 (p q r : Nat) (t : T6) : q3 (cW p q r t) = cW p q (r + 1) t := (itF_out q3 r _).symm
/-- one box, all kinds -/
theorem one_box (c1 c2 c3 : Nat) (x : Int) (hx : x = 0 ∨ x = 1 ∨ x = 2 ∨ x = 3) (t : T6) :
    qI x (cW c1 c2 c3 t) = cW (lp 1 c1 x).2 (lp 2 c2 (lp 1 c1 x).1).2 (lp 3 c3 (lp 2 c2 (lp 1 c1 x).1).1).2 (qI (lp 3 c3 (lp 2 c2 (lp 1 c1 x).1).1).1 t) := by
  have n1 : (1 : Int) ≠ 0 := by decide
  have n2 : (2 : Int) ≠ 0 := by decide
  have n3 : (3 : Int) ≠ 0 := by decide
  rcases hx with rfl | rfl | rfl | rfl
  · cases c1 with
    | succ p =>
      rw [lp_0 n1, lp_o c2 (by decide) n1, lp_o c3 (by decide) n1]
      rfl
    | zero =>
      rw [lp_00 n1]
      cases c2 with
      | succ q =>
        rw [lp_0 n2, lp_o c3 (by decide) n2]
        rfl
      | zero =>
        rw [lp_00 n2]
        cases c3 with
        | succ r => rw [lp_0 n3]; rfl
        | zero => rw [lp_00 n3]; rfl
  · rw [lp_k]
    cases c2 with
    | succ q =>
      rw [lp_0 n2, lp_o c3 (by decide) n2]
      exact c_1_2 c1 q c3 t
    | zero =>
      rw [lp_00 n2]
      cases c3 with
      | succ r => rw [lp_0 n3]; exact c_1_3 c1 r t
      | zero => rw [lp_00 n3]; exact c_1_0 c1 t
  · rw [lp_o c1 (by decide) n2, lp_k]
    cases c3 with
    | succ r => rw [lp_0 n3]; exact c_2_3 c1 c2 r t
    | zero => rw [lp_00 n3]; exact c_2_0 c1 c2 t
  · rw [lp_o c1 (by decide) n3, lp_o c2 (by decide) n3, lp_k]
    exact c_3_0 c1 c2 c3 t
theorem all_boxes : ∀ (w : List Int) (c1 c2 c3 : Nat) (t : T6), (∀ x ∈ w, x = 0 ∨ x = 1 ∨ x = 2 ∨ x = 3) →
    qW w (cW c1 c2 c3 t) = cW (lod 1 c1 w) (lod 2 c2 (pas 1 c1 w)) (lod 3 c3 (pas 2 c2 (pas 1 c1 w))) (qW (pas 3 c3 (pas 2 c2 (pas 1 c1 w))) t)
  | [], _, _, _, _, _ => rfl
  | x :: w, c1, c2, c3, t, h => by
    show qW w (qI x (cW c1 c2 c3 t)) = _
    rw [one_box c1 c2 c3 x (h x List.mem_cons_self) t, all_boxes w _ _ _ _ fun y hy => h y (List.mem_cons_of_mem _ hy)]
    rfl
/-- a step of all kinds, all loads laid down: the counts stay -/
theorem counts_stay {w : List Int} (h : ∀ x ∈ w, x = 0 ∨ x = 1 ∨ x = 2 ∨ x = 3) (h1 : lod 1 0 w = 0) (h2 : lod 2 0 (pas 1 0 w) = 0) (h3 : lod 3 0 (pas 2 0 (pas 1 0 w)) = 0) (t : T6) : qW w t = qW (pas 3 0 (pas 2 0 (pas 1 0 w))) t := by
  have := all_boxes w 0 0 0 t h
  rw [h1, h2, h3] at this
  exact this
/-! ### the lists -/
def r1 (t : T6) : List Int := List.replicate t.a 1 ++ (List.replicate t.b 2 ++ List.replicate t.c 3)
def r2 (t : T6) : List Int := List.replicate t.d 2 ++ List.replicate t.e 3
def r3 (t : T6) : List Int := List.replicate t.f 3
def lay (r : List Int) (rs : List (List Int)) : List (List Int) := if r = [] then [] else r :: rs
def toL (t : T6) : List (List Int) := lay (r1 t) (lay (r2 t) (lay (r3 t) []))
/-- no row below an empty one -/
def VT (t : T6) : Prop := (r1 t = [] → r2 t = []) ∧ (r2 t = [] → r3 t = [])
theorem put_end {u : List Int} {x : Int} {rs : List (List Int)} (e0 : u = [] → rs = []) (h : ∀ y ∈ u, y ≤ x) : put (lay u rs) x = lay (u ++ [x]) rs := by
  have ne : ¬ (u ++ [x] = []) := by simp
  unfold lay
  by_cases c : u = []
  · rw [if_pos c, if_neg ne, c, e0 c]
    rfl
  · rw [if_neg c, if_neg ne]
    have e : low u x = u.length := by
      unfold low
      rw [List.filter_eq_self.mpr fun z hz => decide_eq_true (h z hz)]
    exact if_pos e
theorem put_mid {u v : List Int} {x y : Int} {rs : List (List Int)} (h : ∀ z ∈ u, z ≤ x) (hy : x < y) (hv : ∀ z ∈ v, x < z) : put (lay (u ++ y :: v) rs) x = lay (u ++ x :: v) (put rs y) := by
  unfold lay
  rw [if_neg (fun z => by simp at z), if_neg (fun z => by simp at z)]
  have e : low (u ++ y :: v) x = u.length := by
    unfold low
    rw [List.filter_append, List.filter_eq_self.mpr fun z hz => decide_eq_true (h z hz), List.filter_eq_nil_iff.mpr fun z hz => ?_, List.append_nil]
    rw [decide_eq_true_iff]
    rcases List.mem_cons.mp hz with rfl | hz
    · omega
    · have := hv z hz
      omega
  show (if low (u ++ y :: v) x = (u ++ y :: v).length then _ else _) = _
  rw [e, if_neg (by rw [List.length_append, List.length_cons]; omega)]
  have e2 : (u ++ y :: v).getD u.length 0 = y := by
    rw [List.getD_eq_getElem?_getD, List.getElem?_append_right (Nat.le_refl _), Nat.sub_self]
    rfl
  have e3 : (u ++ y :: v).drop (u.length + 1) = v := by
    rw [show u ++ y :: v = (u ++ [y]) ++ v by simp]
    exact List.drop_left' (by simp)
  rw [e2, List.take_left' rfl, e3, List.append_assoc]
  rfl
theorem rep_all {n : Nat} {y : Int} {z : Int} (h : z ∈ List.replicate n y) : z = y := List.eq_of_mem_replicate h
theorem lay_nil (rs : List (List Int)) : lay [] rs = [] := if_pos rfl
theorem put_3 {t : T6} (v : VT t) : put (toL t) 3 = toL (q3 t) := by
  obtain ⟨a, b, c, d, e, f⟩ := t
  unfold toL
  rw [put_end (fun z => by rw [v.1 z, lay_nil]) (fun y hy => ?_)]
  · congr 1
    unfold r1 q3
    show _ = List.replicate a 1 ++ (List.replicate b 2 ++ List.replicate (c + 1) 3)
    rw [List.replicate_succ', ← List.append_assoc, ← List.append_assoc, ← List.append_assoc]
  · unfold r1 at hy
    rcases List.mem_append.mp hy with z | z
    · rw [rep_all z]; decide
    · rcases List.mem_append.mp z with z | z
      · rw [rep_all z]; decide
      · rw [rep_all z]; decide
/-- 3 put into what lies below the first row -/
theorem put2_3 {d e f : Nat} (v : List.replicate d (2 : Int) ++ List.replicate e 3 = [] → List.replicate f (3 : Int) = []) : put (lay (List.replicate d 2 ++ List.replicate e 3) (lay (List.replicate f 3) [])) 3 = lay (List.replicate d 2 ++ List.replicate (e + 1) 3) (lay (List.replicate f 3) []) := by
  rw [put_end (fun z => by rw [v z, lay_nil]) (fun y hy => ?_)]
  · congr 1
    rw [List.replicate_succ', ← List.append_assoc]
  · rcases List.mem_append.mp hy with z | z
    · rw [rep_all z]; decide
    · rw [rep_all z]; decide
theorem put_2 {t : T6} (v : VT t) : put (toL t) 2 = toL (q2 t) := by
  obtain ⟨a, b, c, d, e, f⟩ := t
  cases c with
  | zero =>
    unfold toL
    rw [put_end (fun z => by rw [v.1 z, lay_nil]) (fun y hy => ?_)]
    · congr 1
      show List.replicate a (1 : Int) ++ (List.replicate b 2 ++ []) ++ [2] = List.replicate a 1 ++ (List.replicate (b + 1) 2 ++ [])
      rw [List.replicate_succ', List.append_nil, List.append_nil, List.append_assoc]
    · unfold r1 at hy
      rcases List.mem_append.mp hy with z | z
      · rw [rep_all z]; decide
      · rcases List.mem_append.mp z with z | z
        · rw [rep_all z]; decide
        · cases z
  | succ c =>
    show put (lay (List.replicate a 1 ++ (List.replicate b 2 ++ List.replicate (c + 1) 3)) (lay (List.replicate d 2 ++ List.replicate e 3) (lay (List.replicate f 3) []))) 2 = lay (List.replicate a 1 ++ (List.replicate (b + 1) 2 ++ List.replicate c 3)) (lay (List.replicate d 2 ++ List.replicate (e + 1) 3) (lay (List.replicate f 3) []))
    rw [List.replicate_succ (n := c), ← List.append_assoc, put_mid (fun z hz => ?_) (by decide) (fun z hz => by rw [rep_all hz]; decide), put2_3 v.2]
    · congr 1
      rw [List.replicate_succ' (n := b), List.append_assoc, List.append_assoc]
      rfl
    · rcases List.mem_append.mp hz with z | z
      · rw [rep_all z]; decide
      · rw [rep_all z]; decide
theorem put_1 {t : T6} (v : VT t) : put (toL t) 1 = toL (q1 t) := by
  obtain ⟨a, b, c, d, e, f⟩ := t
  cases b with
  | succ b =>
    have one : ∀ rs, put (lay (List.replicate a 1 ++ (List.replicate (b + 1) 2 ++ List.replicate c 3)) rs) 1 = lay (List.replicate (a + 1) 1 ++ (List.replicate b 2 ++ List.replicate c 3)) (put rs 2) := fun rs => by
      rw [List.replicate_succ (n := b), List.cons_append, put_mid (fun z hz => by rw [rep_all hz]; decide) (by decide) (fun z hz => ?_)]
      · congr 1
        rw [List.replicate_succ' (n := a), List.append_assoc]
        rfl
      · rcases List.mem_append.mp hz with z | z
        · rw [rep_all z]; decide
        · rw [rep_all z]; decide
    cases e with
    | zero =>
      show put (lay (List.replicate a 1 ++ (List.replicate (b + 1) 2 ++ List.replicate c 3)) (lay (List.replicate d 2 ++ []) (lay (List.replicate f 3) []))) 1 = lay (List.replicate (a + 1) 1 ++ (List.replicate b 2 ++ List.replicate c 3)) (lay (List.replicate (d + 1) 2 ++ []) (lay (List.replicate f 3) []))
      have v2 : List.replicate d (2 : Int) ++ [] = [] → List.replicate f (3 : Int) = [] := v.2
      rw [one, put_end (fun z => by rw [v2 z, lay_nil]) (fun y hy => ?_)]
      · congr 2
        rw [List.append_nil, List.append_nil, List.replicate_succ']
      · rw [List.append_nil] at hy
        rw [rep_all hy]; decide
    | succ e =>
      show put (lay (List.replicate a 1 ++ (List.replicate (b + 1) 2 ++ List.replicate c 3)) (lay (List.replicate d 2 ++ List.replicate (e + 1) 3) (lay (List.replicate f 3) []))) 1 = lay (List.replicate (a + 1) 1 ++ (List.replicate b 2 ++ List.replicate c 3)) (lay (List.replicate (d + 1) 2 ++ List.replicate e 3) (lay (List.replicate (f + 1) 3) []))
      rw [one, List.replicate_succ (n := e), put_mid (fun z hz => by rw [rep_all hz]; decide) (by decide) (fun z hz => by rw [rep_all hz]; decide), put_end (fun _ => rfl) (fun z hz => by rw [rep_all hz]; decide)]
      congr 2
      · rw [List.replicate_succ' (n := d), List.append_assoc]
        rfl
      · rw [List.replicate_succ' (n := f)]
  | zero =>
    cases c with
    | succ c =>
      show put (lay (List.replicate a 1 ++ ([] ++ List.replicate (c + 1) 3)) (lay (List.replicate d 2 ++ List.replicate e 3) (lay (List.replicate f 3) []))) 1 = lay (List.replicate (a + 1) 1 ++ ([] ++ List.replicate c 3)) (lay (List.replicate d 2 ++ List.replicate (e + 1) 3) (lay (List.replicate f 3) []))
      rw [List.nil_append, List.nil_append, List.replicate_succ (n := c), put_mid (fun z hz => by rw [rep_all hz]; decide) (by decide) (fun z hz => by rw [rep_all hz]; decide), put2_3 v.2]
      congr 1
      rw [List.replicate_succ' (n := a), List.append_assoc]
      rfl
    | zero =>
      unfold toL
      rw [put_end (fun z => by rw [v.1 z, lay_nil]) (fun y hy => ?_)]
      · congr 1
        show List.replicate a (1 : Int) ++ ([] ++ []) ++ [1] = List.replicate (a + 1) 1 ++ ([] ++ [])
        rw [List.replicate_succ', List.append_nil, List.append_nil, List.append_nil]
      · unfold r1 at hy
        rcases List.mem_append.mp hy with z | z
        · rw [rep_all z]; decide
        · cases z
theorem app_ne {n : Nat} {y : Int} {v : List Int} : List.replicate (n + 1) y ++ v ≠ [] := fun h => by
  rw [List.replicate_succ] at h
  cases h
theorem app_ne' {u : List Int} {n : Nat} {y : Int} {v : List Int} : u ++ (List.replicate (n + 1) y ++ v) ≠ [] := fun h => by
  rw [List.replicate_succ] at h
  simp at h
theorem app_ne3 {u : List Int} {n : Nat} {y : Int} : u ++ List.replicate (n + 1) y ≠ [] := fun h => by
  rw [List.replicate_succ] at h
  simp at h
theorem vt_3 {t : T6} (v : VT t) : VT (q3 t) := by
  obtain ⟨a, b, c, d, e, f⟩ := t
  refine ⟨fun z => ?_, v.2⟩
  have z : List.replicate a (1 : Int) ++ (List.replicate b 2 ++ List.replicate (c + 1) 3) = [] := z
  rw [← List.append_assoc] at z
  exact absurd z app_ne3
theorem vt_2 {t : T6} (v : VT t) : VT (q2 t) := by
  obtain ⟨a, b, c, d, e, f⟩ := t
  cases c with
  | zero =>
    refine ⟨fun z => ?_, v.2⟩
    exact absurd z app_ne'
  | succ c =>
    refine ⟨fun z => absurd z app_ne', fun z => ?_⟩
    exact absurd z app_ne3
theorem vt_1 {t : T6} (v : VT t) : VT (q1 t) := by
  obtain ⟨a, b, c, d, e, f⟩ := t
  cases b with
  | succ b =>
    cases e with
    | zero => exact ⟨fun z => absurd z app_ne, fun z => absurd z app_ne⟩
    | succ e => exact ⟨fun z => absurd z app_ne, fun z => absurd z app_ne⟩
  | zero =>
    cases c with
    | succ c => exact ⟨fun z => absurd z app_ne, fun z => absurd z app_ne3⟩
    | zero => exact ⟨fun z => absurd z app_ne, v.2⟩
def t0 : T6 := ⟨0, 0, 0, 0, 0, 0⟩
theorem vt_0 : VT t0 := ⟨fun _ => rfl, fun _ => rfl⟩
theorem puts_go : ∀ (w : List Int) (t : T6), VT t → (∀ x ∈ w, x = 0 ∨ x = 1 ∨ x = 2 ∨ x = 3) → (w.filter fun x => decide (x ≠ 0)).foldl put (toL t) = toL (qW w t)
  | [], _, _, _ => rfl
  | x :: w, t, v, h => by
    have hw := fun y hy => h y (List.mem_cons_of_mem x hy)
    show _ = toL (qW w (qI x t))
    rw [List.filter_cons]
    rcases h x List.mem_cons_self with rfl | rfl | rfl | rfl
    · exact puts_go w t v hw
    · show (w.filter _).foldl put (put (toL t) 1) = _
      rw [put_1 v]
      exact puts_go w (q1 t) (vt_1 v) hw
    · show (w.filter _).foldl put (put (toL t) 2) = _
      rw [put_2 v]
      exact puts_go w (q2 t) (vt_2 v) hw
    · show (w.filter _).foldl put (put (toL t) 3) = _
      rw [put_3 v]
      exact puts_go w (q3 t) (vt_3 v) hw
theorem un_kinds : ∀ (w : List Int) (x : Int), (un x w).map (·.2) = w.filter fun y => decide (y ≠ 0)
  | [], _ => rfl
  | y :: r, x => by
    rw [List.filter_cons]
    by_cases z : y = 0
    · subst z
      rw [un_c0, un_kinds r (x + 1)]
      rfl
    · rw [un_c x r z, if_pos (decide_eq_true z), List.map_cons, un_kinds r (x + 1)]
theorem lists_stay {w : List Int} {x y : Int} (h : ∀ x ∈ w, x = 0 ∨ x = 1 ∨ x = 2 ∨ x = 3) (h' : ∀ x ∈ pas 3 0 (pas 2 0 (pas 1 0 w)), x = 0 ∨ x = 1 ∨ x = 2 ∨ x = 3) (h1 : lod 1 0 w = 0) (h2 : lod 2 0 (pas 1 0 w) = 0) (h3 : lod 3 0 (pas 2 0 (pas 1 0 w)) = 0) :
    puts ((un y (pas 3 0 (pas 2 0 (pas 1 0 w)))).map (·.2)) = puts ((un x w).map (·.2)) := by
  unfold puts
  rw [un_kinds, un_kinds]
  have e : ([] : List (List Int)) = toL t0 := rfl
  rw [e, puts_go _ t0 vt_0 h', puts_go _ t0 vt_0 h, ← counts_stay h h1 h2 h3]
end BB
end
section
/-! Motley rows: a step undone, what stays by a step, rows of one kind, blocks. -/
namespace BB
set_option linter.all false
theorem tn_tn (ml : Ps) : tn (tn ml) = ml := by
  unfold tn
  rw [← List.map_reverse, List.reverse_reverse, List.map_map]
  refine (List.map_congr_left fun q _ => ?_).trans (List.map_id ml)
  show (- -q.1, q.2) = q
  rw [Int.neg_neg]
theorem tn_app (u v : Ps) : tn (u ++ v) = tn v ++ tn u := by
  unfold tn
  rw [List.reverse_append, List.map_append]
theorem un_tn : ∀ (v : List Int) (x : Int), tn (un x v) = un (1 - x - (v.length : Int)) v.reverse
  | [], x => rfl
  | y :: r, x => by
    have ih := un_tn r (x + 1)
    have e : 1 - (x + 1) - (r.length : Int) = 1 - x - ((y :: r).length : Int) := by
      rw [List.length_cons]
      omega
    rw [e] at ih
    rw [List.reverse_cons, un_app, ← ih, List.length_reverse]
    by_cases z : y = 0
    · subst z
      rw [un_c0, un_c0]
      exact (List.append_nil _).symm
    · rw [un_c x r z, un_c _ [] z]
      have : (x, y) :: un (x + 1) r = [(x, y)] ++ un (x + 1) r := rfl
      rw [this, tn_app]
      congr 1
      show [(-x, y)] = [(1 - x - ((y :: r).length : Int) + (r.length : Int), y)]
      rw [List.length_cons, show 1 - x - ((r.length + 1 : Nat) : Int) + (r.length : Int) = -x by omega]
/-- all balls have a kind -/
def Nz (ml : Ps) : Prop := ∀ q ∈ ml, q.2 ≠ 0
theorem lod_le (k : Int) : ∀ (w : List Int) (c : Nat), lod k c w ≤ c + w.count k
  | [], c => Nat.le_refl _
  | y :: r, c => by
    have a := lod_le k r (lp k c y).2
    show lod k (lp k c y).2 r ≤ _
    rw [List.count_cons]
    by_cases e : y = k
    · subst e
      rw [lp_k] at a ⊢
      rw [if_pos (by simp)]
      have a : lod y (c + 1) r ≤ c + 1 + _ := a
      show lod y (c + 1) r ≤ _
      omega
    · have : (lp k c y).2 ≤ c := by
        unfold lp
        rw [if_neg e]
        split
        · show c - 1 ≤ c
          omega
        · exact Nat.le_refl _
      omega
theorem pas_zeros {k : Int} (h : k ≠ 0) : ∀ (n c : Nat), c ≤ n → pas k c (List.replicate n 0) = List.replicate c k ++ List.replicate (n - c) 0 ∧ lod k c (List.replicate n 0) = 0
  | 0, c, hc => by
    obtain rfl : c = 0 := by omega
    exact ⟨rfl, rfl⟩
  | n + 1, 0, _ => by
    obtain ⟨a, b⟩ := pas_zeros h n 0 (Nat.zero_le n)
    rw [List.replicate_succ]
    show (lp k 0 0).1 :: pas k (lp k 0 0).2 (List.replicate n 0) = _ ∧ lod k (lp k 0 0).2 (List.replicate n 0) = 0
    rw [lp_00 h]
    refine ⟨?_, b⟩
    show 0 :: pas k 0 (List.replicate n 0) = _
    rw [a]
    rfl
  | n + 1, c + 1, hc => by
    obtain ⟨a, b⟩ := pas_zeros h n c (by omega)
    rw [List.replicate_succ]
    show (lp k (c + 1) 0).1 :: pas k (lp k (c + 1) 0).2 (List.replicate n 0) = _ ∧ lod k (lp k (c + 1) 0).2 (List.replicate n 0) = 0
    rw [lp_0 h]
    refine ⟨?_, b⟩
    show k :: pas k c (List.replicate n 0) = _
    rw [a, List.replicate_succ (n := c), show n + 1 - (c + 1) = n - c by omega]
    rfl
theorem count_un {k : Int} (h : k ≠ 0) (w : List Int) (x : Int) : w.count k = ((un x w).map (·.2)).count k := by
  rw [un_kinds, List.count_filter (by simpa using h)]
/-- a pass over a word with empty boxes behind it -/
theorem pas_end {k : Int} (h : k ≠ 0) {u : List Int} {n m : Nat} (hn : u.count k ≤ n) : ∃ v, pas k 0 (u ++ List.replicate (n + m) 0) = v ++ List.replicate m 0 ∧ v.length = u.length + n ∧ lod k 0 (u ++ List.replicate (n + m) 0) = 0 := by
  have cl := lod_le k u 0
  obtain ⟨a, b⟩ := pas_app k u (List.replicate (n + m) 0) 0
  obtain ⟨c, d⟩ := pas_zeros h (n + m) (lod k 0 u) (by omega)
  refine ⟨pas k 0 u ++ (List.replicate (lod k 0 u) k ++ List.replicate (n - lod k 0 u) 0), ?_, ?_, by rw [b, d]⟩
  · rw [a, c, show n + m - lod k 0 u = (n - lod k 0 u) + m by omega, ← List.replicate_append_replicate, List.append_assoc, List.append_assoc]
  · rw [List.length_append, List.length_append, pas_len, List.length_replicate, List.length_replicate]
    omega
/-- a motley row within lo and hi, as a word with n empty boxes behind it -/
theorem Mo.word {ml : Ps} (mo : Mo ml) (nz : Nz ml) {lo hi : Int} (h : ∀ p ∈ kys ml, lo ≤ p ∧ p ≤ hi) : ∃ u, ml = un lo u ∧ (u.length : Int) = if ml = [] then 0 else (if lo ≤ hi then hi - lo + 1 else 0) := by
  obtain ⟨w, hw⟩ := un_ex ml lo (List.pairwise_map.mp mo.up) fun q hq => ⟨(h q.1 (List.mem_map_of_mem hq)).1, nz q hq⟩
  by_cases e : ml = []
  · exact ⟨[], by rw [e]; rfl, by rw [if_pos e]; rfl⟩
  · rw [if_neg e]
    obtain ⟨q, hq⟩ := List.exists_mem_of_ne_nil _ e
    have b := h q.1 (List.mem_map_of_mem hq)
    rw [if_pos (by omega)]
    by_cases c : (w.length : Int) ≤ hi - lo + 1
    · refine ⟨w ++ List.replicate (hi - lo + 1 - (w.length : Int)).toNat 0, by rw [un_end]; exact hw, ?_⟩
      rw [List.length_append, List.length_replicate]
      omega
    · have t : w = w.take (hi - lo + 1).toNat ++ w.drop (hi - lo + 1).toNat := (List.take_append_drop _ _).symm
      have tl : (w.take (hi - lo + 1).toNat).length = (hi - lo + 1).toNat := by rw [List.length_take]; omega
      refine ⟨w.take (hi - lo + 1).toNat, ?_, by rw [tl]; omega⟩
      rw [hw] at h ⊢
      rw [t, un_app] at h
      conv => lhs; rw [t, un_app]
      have e0 : un (lo + ((w.take (hi - lo + 1).toNat).length : Int)) (w.drop (hi - lo + 1).toNat) = [] := by
        cases z : un (lo + ((w.take (hi - lo + 1).toNat).length : Int)) (w.drop (hi - lo + 1).toNat) with
        | nil => rfl
        | cons q r =>
          have qm : q ∈ un (lo + ((w.take (hi - lo + 1).toNat).length : Int)) (w.drop (hi - lo + 1).toNat) := by rw [z]; exact List.mem_cons_self
          have g := (un_ge _ _ q qm).1
          have g2 := (h q.1 (List.mem_map_of_mem (List.mem_append_right _ qm))).2
          rw [tl] at g
          omega
      rw [e0, List.append_nil]
/-- a step of a kind: its word -/
theorem kc_word {k : Int} (h : k ≠ 0) {ml : Ps} (mo : Mo ml) (nz : Nz ml) : ∃ (lo : Int) (w : List Int), ml = un lo w ∧ lod k 0 w = 0 ∧ kc k ml = un lo (pas k 0 w) := by
  obtain ⟨lo, hlo⟩ : ∃ lo : Int, ∀ q ∈ ml, lo ≤ q.1 := by
    cases ml with
    | nil => exact ⟨0, fun q hq => absurd hq List.not_mem_nil⟩
    | cons a r =>
      refine ⟨a.1, fun q hq => ?_⟩
      rcases List.mem_cons.mp hq with rfl | hq
      · exact Int.le_refl _
      · have := (List.pairwise_cons.mp (List.pairwise_map.mp mo.up)).1 q hq
        exact Int.le_of_lt this
  obtain ⟨u, hu⟩ := un_ex ml lo (List.pairwise_map.mp mo.up) fun q hq => ⟨hlo q hq, nz q hq⟩
  obtain ⟨v, _, _, l0⟩ := pas_end h (u := u) (n := u.count k) (m := 0) (Nat.le_refl _)
  refine ⟨lo, u ++ List.replicate (u.count k + 0) 0, by rw [un_end]; exact hu, l0, ?_⟩
  rw [← kc_pas h l0, un_end, ← hu]
theorem kc_nz {k : Int} (h : k ≠ 0) {ml : Ps} (mo : Mo ml) (nz : Nz ml) : Nz (kc k ml) := by
  obtain ⟨lo, w, _, _, e⟩ := kc_word h mo nz
  rw [e]
  exact fun q hq => (un_ge _ _ q hq).2.2
theorem tn_nz {ml : Ps} (nz : Nz ml) : Nz (tn ml) := fun q hq => by
  unfold tn at hq
  obtain ⟨z, hz, rfl⟩ := List.mem_map.mp hq
  exact nz z (List.mem_reverse.mp hz)
/-- a step of a kind, turned about, is undone by a step of the kind -/
theorem kc_back {k : Int} (h : k ≠ 0) {ml : Ps} (mo : Mo ml) (nz : Nz ml) : kc k (tn (kc k ml)) = tn ml := by
  obtain ⟨lo, w, e, l0, e2⟩ := kc_word h mo nz
  obtain ⟨a, b⟩ := pas_back h w 0
  rw [l0] at a b
  rw [e2, un_tn, kc_pas h b, a, e, un_tn, pas_len]
def up3 (ml : Ps) : Ps := steps3 [1, 2, 3] ml
def dn3 (ml : Ps) : Ps := tn (steps3 [3, 2, 1] (tn ml))
theorem up3_is (ml : Ps) : up3 ml = kc 3 (kc 2 (kc 1 ml)) := rfl
theorem dn3_is (ml : Ps) : dn3 ml = tn (kc 1 (kc 2 (kc 3 (tn ml)))) := rfl
theorem dn_up3 {ml : Ps} (mo : Mo ml) (nz : Nz ml) : dn3 (up3 ml) = ml := by
  have m1 := kc_mo mo 1
  have z1 := kc_nz (k := 1) (by decide) mo nz
  have m2 := kc_mo m1 2
  have z2 := kc_nz (k := 2) (by decide) m1 z1
  rw [dn3_is, up3_is, kc_back (by decide) m2 z2, kc_back (by decide) m1 z1, kc_back (by decide) mo nz, tn_tn]
theorem up_dn3 {ml : Ps} (mo : Mo ml) (nz : Nz ml) : up3 (dn3 ml) = ml := by
  have m0 := tn_mo mo
  have z0 := tn_nz nz
  have m1 := kc_mo m0 3
  have z1 := kc_nz (k := 3) (by decide) m0 z0
  have m2 := kc_mo m1 2
  have z2 := kc_nz (k := 2) (by decide) m1 z1
  rw [up3_is, dn3_is, kc_back (by decide) m2 z2, kc_back (by decide) m1 z1, kc_back (by decide) m0 z0, tn_tn]
/-! ### kinds -/
theorem pas_kinds {k : Int} (h : k ≠ 0) : ∀ (w : List Int) (c : Nat), (((pas k c w).filter fun y => decide (y ≠ 0)) ++ List.replicate (lod k c w) k).Perm (List.replicate c k ++ w.filter fun y => decide (y ≠ 0))
  | [], c => by
    show (([] : List Int) ++ List.replicate c k).Perm (List.replicate c k ++ [])
    rw [List.append_nil, List.nil_append]
  | y :: r, c => by
    have ih := pas_kinds h r (lp k c y).2
    show ((((lp k c y).1 :: pas k (lp k c y).2 r).filter fun y => decide (y ≠ 0)) ++ List.replicate (lod k (lp k c y).2 r) k).Perm _
    by_cases e : y = k
    · subst e
      rw [lp_k] at ih ⊢
      rw [List.filter_cons, if_neg (by simp), List.filter_cons, if_pos (decide_eq_true h)]
      refine ih.trans ?_
      rw [List.replicate_succ']
      show (List.replicate c y ++ [y] ++ _).Perm (List.replicate c y ++ y :: _)
      rw [List.append_assoc]
      exact List.Perm.refl _
    · by_cases z : y = 0
      · subst z
        rw [List.filter_cons (x := (0 : Int)) (xs := r), if_neg (by decide)]
        cases c with
        | zero =>
          rw [lp_00 h] at ih ⊢
          rw [List.filter_cons, if_neg (by decide)]
          exact ih
        | succ c =>
          rw [lp_0 h] at ih ⊢
          rw [List.filter_cons, if_pos (decide_eq_true h), List.replicate_succ]
          exact ih.cons k
      · rw [lp_o c e z] at ih ⊢
        rw [List.filter_cons, if_pos (decide_eq_true z), List.filter_cons, if_pos (decide_eq_true z)]
        refine (ih.cons y).trans ?_
        exact (List.perm_middle).symm
theorem kc_kinds {k : Int} (h : k ≠ 0) {ml : Ps} (mo : Mo ml) (nz : Nz ml) : ((kc k ml).map (·.2)).Perm (ml.map (·.2)) := by
  obtain ⟨lo, w, e, l0, e2⟩ := kc_word h mo nz
  have p := pas_kinds h w 0
  rw [l0] at p
  rw [e2, e, un_kinds, un_kinds]
  have p : (((pas k 0 w).filter fun y => decide (y ≠ 0)) ++ []).Perm ([] ++ w.filter fun y => decide (y ≠ 0)) := p
  rw [List.append_nil, List.nil_append] at p
  exact p
theorem up3_kinds {ml : Ps} (mo : Mo ml) (nz : Nz ml) : ((up3 ml).map (·.2)).Perm (ml.map (·.2)) := by
  have m1 := kc_mo mo 1
  have z1 := kc_nz (k := 1) (by decide) mo nz
  have m2 := kc_mo m1 2
  have z2 := kc_nz (k := 2) (by decide) m1 z1
  rw [up3_is]
  exact (kc_kinds (by decide) m2 z2).trans ((kc_kinds (by decide) m1 z1).trans (kc_kinds (by decide) mo nz))
/-- kinds 1, 2, 3 only -/
def K3 (ml : Ps) : Prop := ∀ q ∈ ml, 1 ≤ q.2 ∧ q.2 ≤ 3
theorem K3.nz {ml : Ps} (h : K3 ml) : Nz ml := fun q hq => by have := h q hq; omega
theorem up3_k3 {ml : Ps} (mo : Mo ml) (h : K3 ml) : K3 (up3 ml) := fun q hq => by
  have a := (up3_kinds mo h.nz).mem_iff.mp (List.mem_map_of_mem (f := (·.2)) hq)
  obtain ⟨z, hz, e⟩ := List.mem_map.mp a
  have := h z hz
  rw [← e]
  exact this
theorem un_letters {w : List Int} {x : Int} (h : K3 (un x w)) : ∀ y ∈ w, y = 0 ∨ y = 1 ∨ y = 2 ∨ y = 3 := fun y hy => by
  by_cases z : y = 0
  · exact .inl z
  · have m : y ∈ (un x w).map (·.2) := by
      rw [un_kinds]
      exact List.mem_filter.mpr ⟨hy, decide_eq_true z⟩
    obtain ⟨q, hq, e⟩ := List.mem_map.mp m
    have := h q hq
    omega
/-- one word for the three steps of a motley row within lo and hi -/
theorem up3_word {ml : Ps} (mo : Mo ml) (h : K3 ml) {lo hi : Int} (bd : ∀ p ∈ kys ml, lo ≤ p ∧ p ≤ hi) (hl : lo ≤ hi + 1) : ∃ w, ml = un lo w ∧ lod 1 0 w = 0 ∧ lod 2 0 (pas 1 0 w) = 0 ∧ lod 3 0 (pas 2 0 (pas 1 0 w)) = 0 ∧ up3 ml = un lo (pas 3 0 (pas 2 0 (pas 1 0 w))) ∧ (w.length : Int) ≤ hi - lo + 1 + (ml.length : Int) := by
  have n1 : (1 : Int) ≠ 0 := by decide
  have n2 : (2 : Int) ≠ 0 := by decide
  have n3 : (3 : Int) ≠ 0 := by decide
  obtain ⟨u, hu, lu⟩ := mo.word h.nz bd
  have m1 := kc_mo mo 1
  have z1 := kc_nz n1 mo h.nz
  have m2 := kc_mo m1 2
  have p1 := kc_kinds n1 mo h.nz
  have p2 := kc_kinds n2 m1 z1
  have c1 := count_un n1 u lo
  rw [← hu] at c1
  have tot : (ml.map (·.2)).count 1 + (ml.map (·.2)).count 2 + (ml.map (·.2)).count 3 = ml.length := by
    have : ∀ l : List Int, (∀ x ∈ l, 1 ≤ x ∧ x ≤ 3) → l.count 1 + l.count 2 + l.count 3 = l.length := fun l => by
      induction l with
      | nil => intro _; rfl
      | cons x r ih =>
        intro hx
        have a := ih fun y hy => hx y (List.mem_cons_of_mem _ hy)
        have b := hx x List.mem_cons_self
        have c : x = 1 ∨ x = 2 ∨ x = 3 := by omega
        rw [List.length_cons]
        rcases c with rfl | rfl | rfl
        · rw [List.count_cons_self, List.count_cons_of_ne (by decide), List.count_cons_of_ne (by decide)]; omega
        · rw [List.count_cons_self, List.count_cons_of_ne (by decide), List.count_cons_of_ne (by decide)]; omega
        · rw [List.count_cons_self, List.count_cons_of_ne (by decide), List.count_cons_of_ne (by decide)]; omega
    have t := this (ml.map (·.2)) fun x hx => by
      obtain ⟨q, hq, rfl⟩ := List.mem_map.mp hx
      exact h q hq
    rwa [List.length_map] at t
  obtain ⟨a, ha⟩ : ∃ a, a = (ml.map (·.2)).count 1 := ⟨_, rfl⟩
  obtain ⟨b, hb⟩ : ∃ b, b = (ml.map (·.2)).count 2 := ⟨_, rfl⟩
  obtain ⟨c, hc⟩ : ∃ c, c = (ml.map (·.2)).count 3 := ⟨_, rfl⟩
  obtain ⟨v1, e1, l1, d1⟩ := pas_end n1 (u := u) (n := a) (m := b + c) (by rw [c1, ← ha]; exact Nat.le_refl _)
  have w1 : ml = un lo (u ++ List.replicate (a + (b + c)) 0) := by rw [un_end]; exact hu
  have k1 : kc 1 ml = un lo (v1 ++ List.replicate (b + c) 0) := by rw [← e1, ← kc_pas n1 d1, ← w1]
  have c2 : v1.count 2 = b := by
    rw [count_un n2 v1 lo, ← un_end lo v1 (b + c), ← k1, p1.count_eq, hb]
  obtain ⟨v2, e2, l2, d2⟩ := pas_end n2 (u := v1) (n := b) (m := c) (by rw [c2]; exact Nat.le_refl _)
  have k2 : kc 2 (kc 1 ml) = un lo (v2 ++ List.replicate c 0) := by rw [← e2, ← kc_pas n2 d2, ← k1]
  have c3 : v2.count 3 = c := by
    rw [count_un n3 v2 lo, ← un_end lo v2 c, ← k2, (p2.trans p1).count_eq, hc]
  obtain ⟨v3, e3, l3, d3⟩ := pas_end n3 (u := v2) (n := c) (m := 0) (by rw [c3]; exact Nat.le_refl _)
  have d3 : lod 3 0 (v2 ++ List.replicate c 0) = 0 := d3
  refine ⟨u ++ List.replicate (a + (b + c)) 0, w1, d1, by rw [e1]; exact d2, by rw [e1, e2]; exact d3, ?_, ?_⟩
  · rw [up3_is, k2, kc_pas n3 d3, e1, e2]
  · rw [List.length_append, List.length_replicate]
    split at lu
    · omega
    · split at lu
      · omega
      · omega
/-- the lists stay -/
theorem up3_lists {ml : Ps} (mo : Mo ml) (h : K3 ml) : puts ((up3 ml).map (·.2)) = puts (ml.map (·.2)) := by
  obtain ⟨lo, hi, bd, hl⟩ : ∃ lo hi : Int, (∀ p ∈ kys ml, lo ≤ p ∧ p ≤ hi) ∧ lo ≤ hi + 1 := by
    have : ∀ l : List Int, ∃ lo hi : Int, (∀ p ∈ l, lo ≤ p ∧ p ≤ hi) ∧ lo ≤ hi + 1 := fun l => by
      induction l with
      | nil => exact ⟨0, 0, fun p hp => absurd hp List.not_mem_nil, by decide⟩
      | cons x r ih =>
        obtain ⟨lo, hi, a, b⟩ := ih
        refine ⟨min lo x, max hi x, fun p hp => ?_, by omega⟩
        rcases List.mem_cons.mp hp with rfl | hp
        · omega
        · have := a p hp
          omega
    exact this (kys ml)
  obtain ⟨w, e, d1, d2, d3, e3, _⟩ := up3_word mo h bd hl
  have k3 := up3_k3 mo h
  rw [e3] at k3 ⊢
  have h' := h
  rw [e] at h'
  conv => rhs; rw [e]
  exact lists_stay (un_letters h') (un_letters k3) d1 d2 d3
/-- how far it goes -/
theorem up3_bd {ml : Ps} (mo : Mo ml) (h : K3 ml) {lo hi : Int} (bd : ∀ p ∈ kys ml, lo ≤ p ∧ p ≤ hi) (hl : lo ≤ hi + 1) : ∀ p ∈ kys (up3 ml), lo ≤ p ∧ p ≤ hi + 12 := fun p hp => by
  obtain ⟨w, e, d1, d2, d3, e3, lw⟩ := up3_word mo h bd hl
  rw [e3] at hp
  obtain ⟨q, hq, rfl⟩ := List.mem_map.mp hp
  have a := un_ge _ _ q hq
  rw [pas_len, pas_len, pas_len] at a
  have := mo.len
  omega
end BB
end
section
/-! Motley rows of one kind, and blocks of kinds that never fall. -/
namespace BB
set_option linter.all false
theorem pas_none {k : Int} (h : k ≠ 0) : ∀ (w : List Int), (∀ y ∈ w, y ≠ k) → pas k 0 w = w ∧ lod k 0 w = 0
  | [], _ => ⟨rfl, rfl⟩
  | y :: r, hy => by
    obtain ⟨a, b⟩ := pas_none h r fun z hz => hy z (List.mem_cons_of_mem _ hz)
    have e : lp k 0 y = (y, 0) := by
      by_cases z : y = 0
      · rw [z]; exact lp_00 h
      · exact lp_o 0 (hy y List.mem_cons_self) z
    show (lp k 0 y).1 :: pas k (lp k 0 y).2 r = y :: r ∧ lod k (lp k 0 y).2 r = 0
    rw [e]
    exact ⟨congrArg (List.cons y) a, b⟩
theorem kc_none {k : Int} (h : k ≠ 0) {ml : Ps} (mo : Mo ml) (nz : Nz ml) (no : ∀ q ∈ ml, q.2 ≠ k) : kc k ml = ml := by
  obtain ⟨lo, w, e, l0, e2⟩ := kc_word h mo nz
  have : ∀ y ∈ w, y ≠ k := fun y hy z => by
    subst z
    have m : y ∈ (un lo w).map (·.2) := by
      rw [un_kinds]
      exact List.mem_filter.mpr ⟨hy, decide_eq_true h⟩
    obtain ⟨q, hq, eq⟩ := List.mem_map.mp m
    rw [← e] at hq
    exact no q hq eq
  rw [e2, (pas_none h w this).1, ← e]
/-! ### one kind -/
def enc (k : Int) (b : Bool) : Int := if b then k else 0
theorem un_places {k : Int} (h : k ≠ 0) : ∀ (bs : List Bool) (x : Int), un x (bs.map (enc k)) = (places x bs).map fun p => (p, k)
  | [], _ => rfl
  | false :: r, x => by
    show un x (0 :: r.map (enc k)) = _
    rw [un_c0, un_places h r (x + 1)]
    rfl
  | true :: r, x => by
    show un x (k :: r.map (enc k)) = _
    rw [un_c x _ h, un_places h r (x + 1)]
    rfl
theorem pas_out {k : Int} (h : k ≠ 0) {z : Nat} : ∀ (bs : List Bool) (L : Nat), L + bs.count true ≤ z → pas k L (bs.map (enc k)) = (out z L bs).map (enc k) ∧ lod k L (bs.map (enc k)) = fin z L bs
  | [], _, _ => ⟨rfl, rfl⟩
  | b :: r, L, hz => by
    obtain ⟨l1, l2⟩ := ld_bound hz
    have e := stp_ld (z := z) (L := L) (b := b) l2
    obtain ⟨a, c⟩ := pas_out h r (ld L b) l1
    have g : lp k L (enc k b) = (enc k (!b && decide (0 < L)), ld L b) := by
      cases b with
      | true => exact lp_k k L
      | false =>
        cases L with
        | zero => exact lp_00 h
        | succ L => exact lp_0 h L
    show (lp k L (enc k b)).1 :: pas k (lp k L (enc k b)).2 (r.map (enc k)) = ((stp z L b).2 :: out z (stp z L b).1 r).map (enc k) ∧ lod k (lp k L (enc k b)).2 (r.map (enc k)) = fin z (stp z L b).1 r
    rw [g, e]
    exact ⟨congrArg (List.cons _) a, c⟩
theorem plain_mo {row : List Int} (up : row.Pairwise (· < ·)) (ln : row.length ≤ 12) (k : Int) : Mo (row.map fun p => (p, k)) := by
  refine ⟨?_, by rw [List.length_map]; exact ln⟩
  unfold kys
  rw [List.map_map]
  exact (List.map_id row).symm ▸ up
theorem plain_kc {k : Int} (h : k ≠ 0) {row : List Int} (up : row.Pairwise (· < ·)) : kc k (row.map fun p => (p, k)) = (step row.length row).map fun p => (p, k) := by
  obtain ⟨A, B, bd⟩ : ∃ A B : Int, ∀ p ∈ row, A ≤ p ∧ p ≤ B := by
    have : ∀ l : List Int, ∃ lo hi : Int, ∀ p ∈ l, lo ≤ p ∧ p ≤ hi := fun l => by
      induction l with
      | nil => exact ⟨0, 0, fun p hp => absurd hp List.not_mem_nil⟩
      | cons x r ih =>
        obtain ⟨lo, hi, a⟩ := ih
        refine ⟨min lo x, max hi x, fun p hp => ?_⟩
        rcases List.mem_cons.mp hp with rfl | hp
        · omega
        · have := a p hp
          omega
    exact this row
  obtain ⟨bs, e1, e2, e3, _⟩ := window row.length up bd
  obtain ⟨a, c⟩ := pas_out (k := k) h (z := row.length) bs 0 (by omega)
  rw [e2] at c
  have e4 : (row.map fun p => (p, k)) = un A (bs.map (enc k)) := by rw [un_places h, e1]
  have e5 := step_places (z := row.length) (lo := A) (bs := bs) e2
  rw [e1] at e5
  rw [e5, e4, kc_pas h c, a, un_places h]
theorem plain_other {k k' : Int} (h : k ≠ 0) (h' : k' ≠ 0) (ne : k ≠ k') {row : List Int} (up : row.Pairwise (· < ·)) (ln : row.length ≤ 12) : kc k' (row.map fun p => (p, k)) = row.map fun p => (p, k) := by
  refine kc_none h' (plain_mo up ln k) (fun q hq => ?_) (fun q hq => ?_)
  · obtain ⟨p, _, rfl⟩ := List.mem_map.mp hq
    exact h
  · obtain ⟨p, _, rfl⟩ := List.mem_map.mp hq
    exact ne
theorem step_row {row : List Int} (up : row.Pairwise (· < ·)) : (step row.length row).Pairwise (· < ·) ∧ (step row.length row).length = row.length := by
  obtain ⟨A, B, bd⟩ : ∃ A B : Int, ∀ p ∈ row, A ≤ p ∧ p ≤ B := by
    have : ∀ l : List Int, ∃ lo hi : Int, ∀ p ∈ l, lo ≤ p ∧ p ≤ hi := fun l => by
      induction l with
      | nil => exact ⟨0, 0, fun p hp => absurd hp List.not_mem_nil⟩
      | cons x r ih =>
        obtain ⟨lo, hi, a⟩ := ih
        refine ⟨min lo x, max hi x, fun p hp => ?_⟩
        rcases List.mem_cons.mp hp with rfl | hp
        · omega
        · have := a p hp
          omega
    exact this row
  have r : Rw row row.length A B := ⟨up, rfl, bd⟩
  have s := r.step row.length
  exact ⟨s.up, s.len⟩
theorem plain_up3 {k : Int} (h1 : 1 ≤ k) (h3 : k ≤ 3) {row : List Int} (up : row.Pairwise (· < ·)) (ln : row.length ≤ 12) : up3 (row.map fun p => (p, k)) = (step row.length row).map fun p => (p, k) := by
  obtain ⟨su, sl⟩ := step_row up
  have sl12 : (step row.length row).length ≤ 12 := by omega
  rw [up3_is]
  have c : k = 1 ∨ k = 2 ∨ k = 3 := by omega
  rcases c with rfl | rfl | rfl
  · rw [plain_kc (by decide) up, plain_other (by decide) (by decide) (by decide) su sl12, plain_other (by decide) (by decide) (by decide) su sl12]
  · rw [plain_other (by decide) (by decide) (by decide) up ln, plain_kc (by decide) up, plain_other (by decide) (by decide) (by decide) su sl12]
  · rw [plain_other (by decide) (by decide) (by decide) up ln, plain_other (by decide) (by decide) (by decide) up ln, plain_kc (by decide) up]
/-! ### blocks -/
theorem pas_rep (k : Int) : ∀ (n c : Nat), pas k c (List.replicate n k) = List.replicate n 0 ∧ lod k c (List.replicate n k) = c + n
  | 0, c => ⟨rfl, rfl⟩
  | n + 1, c => by
    obtain ⟨a, b⟩ := pas_rep k n (c + 1)
    rw [List.replicate_succ, List.replicate_succ]
    show (lp k c k).1 :: pas k (lp k c k).2 (List.replicate n k) = _ ∧ lod k (lp k c k).2 (List.replicate n k) = _
    rw [lp_k]
    exact ⟨congrArg (List.cons 0) a, by have b : lod k (c + 1) (List.replicate n k) = c + 1 + n := b; show lod k (c + 1) (List.replicate n k) = _; omega⟩
theorem pas_past {k : Int} : ∀ (u : List Int) (c : Nat), (∀ y ∈ u, y ≠ k ∧ y ≠ 0) → pas k c u = u ∧ lod k c u = c
  | [], _, _ => ⟨rfl, rfl⟩
  | y :: r, c, hy => by
    obtain ⟨a, b⟩ := pas_past r c fun z hz => hy z (List.mem_cons_of_mem _ hz)
    show (lp k c y).1 :: pas k (lp k c y).2 r = y :: r ∧ lod k (lp k c y).2 r = c
    rw [lp_o c (hy y List.mem_cons_self).1 (hy y List.mem_cons_self).2]
    exact ⟨congrArg (List.cons y) a, b⟩
theorem sorted3 : ∀ (ks : List Int), ks.Pairwise (· ≤ ·) → (∀ y ∈ ks, 1 ≤ y ∧ y ≤ 3) → ∃ a b c : Nat, ks = List.replicate a 1 ++ (List.replicate b 2 ++ List.replicate c 3)
  | [], _, _ => ⟨0, 0, 0, rfl⟩
  | y :: r, up, h => by
    obtain ⟨u1, u2⟩ := List.pairwise_cons.mp up
    obtain ⟨a, b, c, e⟩ := sorted3 r u2 fun z hz => h z (List.mem_cons_of_mem _ hz)
    have hy := h y List.mem_cons_self
    have cs : y = 1 ∨ y = 2 ∨ y = 3 := by omega
    rcases cs with rfl | rfl | rfl
    · exact ⟨a + 1, b, c, by rw [e, List.replicate_succ]; rfl⟩
    · have a0 : a = 0 := by
        cases a with
        | zero => rfl
        | succ a =>
          have := u1 1 (by rw [e, List.replicate_succ]; exact List.mem_cons_self)
          omega
      subst a0
      exact ⟨0, b + 1, c, by rw [e, List.replicate_succ (n := b)]; rfl⟩
    · have a0 : a = 0 := by
        cases a with
        | zero => rfl
        | succ a =>
          have := u1 1 (by rw [e, List.replicate_succ]; exact List.mem_cons_self)
          omega
      subst a0
      have b0 : b = 0 := by
        cases b with
        | zero => rfl
        | succ b =>
          have := u1 2 (by rw [e, List.replicate_succ]; exact List.mem_cons_self)
          omega
      subst b0
      exact ⟨0, 0, c + 1, by rw [e, List.replicate_succ (n := c)]; rfl⟩
theorem rep_ne {n : Nat} {x y : Int} (h : x ≠ y) (h0 : x ≠ 0) : ∀ z ∈ List.replicate n x, z ≠ y ∧ z ≠ 0 := fun z hz => by
  rw [List.eq_of_mem_replicate hz]
  exact ⟨h, h0⟩
theorem pas_step (k : Int) {u v : List Int} {c d : Nat} {u' : List Int} (h : pas k c u = u' ∧ lod k c u = d) {v' : List Int} {e : Nat} (h2 : pas k d v = v' ∧ lod k d v = e) : pas k c (u ++ v) = u' ++ v' ∧ lod k c (u ++ v) = e := by
  obtain ⟨a, b⟩ := pas_app k u v c
  rw [a, b, h.1, h.2, h2.1, h2.2]
  exact ⟨rfl, rfl⟩
theorem block_up3 {ks : List Int} (up : ks.Pairwise (· ≤ ·)) (h : ∀ y ∈ ks, 1 ≤ y ∧ y ≤ 3) (x : Int) : up3 (un x ks) = un (x + (ks.length : Int)) ks := by
  obtain ⟨a, b, c, e⟩ := sorted3 ks up h
  have n1 : (1 : Int) ≠ 0 := by decide
  have n2 : (2 : Int) ≠ 0 := by decide
  have n3 : (3 : Int) ≠ 0 := by decide
  have z0 : ∀ {k : Int} (hk : k ≠ 0) (n : Nat), pas k 0 (List.replicate n 0) = List.replicate n 0 ∧ lod k 0 (List.replicate n 0) = 0 := fun hk n => by
    have := pas_zeros hk n 0 (Nat.zero_le _)
    exact this
  have zn : ∀ {k : Int} (hk : k ≠ 0) (n m : Nat), pas k n (List.replicate (n + m) 0) = List.replicate n k ++ List.replicate m 0 ∧ lod k n (List.replicate (n + m) 0) = 0 := fun hk n m => by
    have := pas_zeros hk (n + m) n (by omega)
    rwa [show n + m - n = m by omega] at this
  have l : ks.length = a + b + c := by
    rw [e, List.length_append, List.length_append, List.length_replicate, List.length_replicate, List.length_replicate]
    omega
  -- the three passes
  have p1 := pas_step 1 (pas_rep 1 a 0) (pas_step 1 (pas_past (List.replicate b 2) (0 + a) (rep_ne (by decide) n2)) (pas_step 1 (pas_past (List.replicate c 3) (0 + a) (rep_ne (by decide) n3)) (by rw [Nat.zero_add]; exact zn n1 a (b + c))))
  have p2 := pas_step 2 (z0 n2 a) (pas_step 2 (pas_rep 2 b 0) (pas_step 2 (pas_past (List.replicate c 3) (0 + b) (rep_ne (by decide) n3)) (pas_step 2 (pas_past (List.replicate a 1) (0 + b) (rep_ne (by decide) n1)) (by rw [Nat.zero_add]; exact zn n2 b c))))
  have p3 := pas_step 3 (z0 n3 a) (pas_step 3 (z0 n3 b) (pas_step 3 (pas_rep 3 c 0) (pas_step 3 (pas_past (List.replicate a 1) (0 + c) (rep_ne (by decide) n1)) (pas_step 3 (pas_past (List.replicate b 2) (0 + c) (rep_ne (by decide) n2)) (by rw [Nat.zero_add]; exact zn n3 c 0)))))
  have e0 : un x ks = un x (List.replicate a 1 ++ (List.replicate b 2 ++ (List.replicate c 3 ++ List.replicate (a + (b + c)) 0))) := by
    rw [← un_end x ks (a + (b + c)), e, List.append_assoc, List.append_assoc]
  rw [up3_is, e0, kc_pas n1 p1.2, p1.1, kc_pas n2 p2.2, p2.1]
  have p3' : lod 3 0 (List.replicate a 0 ++ (List.replicate b 0 ++ (List.replicate c 3 ++ (List.replicate a 1 ++ (List.replicate b 2 ++ List.replicate c 0))))) = 0 := p3.2
  rw [kc_pas n3 p3', show pas 3 0 (List.replicate a 0 ++ (List.replicate b 0 ++ (List.replicate c 3 ++ (List.replicate a 1 ++ (List.replicate b 2 ++ List.replicate c 0))))) = _ from p3.1]
  rw [un_app, un_zero, un_app, un_zero, un_app, un_zero, List.nil_append, List.nil_append, List.nil_append, List.length_replicate, List.length_replicate, List.length_replicate]
  rw [l, show x + ((a + b + c : Nat) : Int) = x + (a : Int) + (b : Int) + (c : Int) by omega, e]
  congr 1
  rw [show List.replicate 0 (0 : Int) = [] from rfl, List.append_nil]
theorem un_enum : ∀ (ks : List Int) (x : Int), (∀ y ∈ ks, y ≠ 0) → un x ks = (List.range ks.length).map fun (i : Nat) => (x + (i : Int), ks.getD i 0)
  | [], _, _ => rfl
  | y :: r, x, h => by
    rw [un_c x r (h y List.mem_cons_self), un_enum r (x + 1) fun z hz => h z (List.mem_cons_of_mem _ hz), List.length_cons, List.range_succ_eq_map, List.map_cons, List.map_map]
    congr 1
    · show (x, y) = (x + ((0 : Nat) : Int), (y :: r).getD 0 0)
      rw [show x + ((0 : Nat) : Int) = x by omega]
      rfl
    · refine List.map_congr_left fun i _ => ?_
      show (x + 1 + (i : Int), r.getD i 0) = (x + ((i + 1 : Nat) : Int), (y :: r).getD (i + 1) 0)
      rw [show x + 1 + (i : Int) = x + ((i + 1 : Nat) : Int) by omega]
      rfl
end BB
end
section
namespace K74
open PySem PySem.Spec PyProof.Rows L2
set_option maxHeartbeats 4000000
set_option Elab.async false
set_option linter.unusedVariables false
def top (i : Nat) : Stmt := PySem.Challenge.pw_boxballs_k74_whole_motley_rows.main.body.getD i (.Pass ⟨0, 0, 0, 0⟩)
abbrev s_is_number : Stmt := top 4
theorem sc_is_number : FnScope ["thing", "least", "greatest"] ["thing", "least", "greatest"] (defScope s_is_number) := ⟨rfl, rfl, rfl, by decide +kernel, rfl, by decide +kernel, by decide +kernel⟩
abbrev s_need_number : Stmt := top 5
theorem sc_need_number : FnScope ["thing", "least", "greatest"] ["thing", "least", "greatest"] (defScope s_need_number) := ⟨rfl, rfl, rfl, by decide +kernel, rfl, by decide +kernel, by decide +kernel⟩
abbrev s_is_rising : Stmt := top 6
theorem sc_is_rising : FnScope ["numbers"] ["numbers"] (defScope s_is_rising) := ⟨rfl, rfl, rfl, by decide +kernel, rfl, by decide +kernel, by decide +kernel⟩
abbrev s_carry : Stmt := top 7
theorem sc_carry : FnScope ["row", "size", "behind", "load", "taken", "box", "place", "laid"] ["row", "size"] (defScope s_carry) := ⟨rfl, rfl, rfl, by decide +kernel, rfl, by decide +kernel, by decide +kernel⟩
abbrev s_is_row : Stmt := top 11
theorem sc_is_row : FnScope ["thing"] ["thing"] (defScope s_is_row) := ⟨rfl, rfl, rfl, by decide +kernel, rfl, by decide +kernel, by decide +kernel⟩
abbrev s_carried : Stmt := top 12
theorem sc_carried : FnScope ["row", "behind", "taken"] ["row"] (defScope s_carried) := ⟨rfl, rfl, rfl, by decide +kernel, rfl, by decide +kernel, by decide +kernel⟩
abbrev s_is_ball : Stmt := top 15
theorem sc_is_ball : FnScope ["thing"] ["thing"] (defScope s_is_ball) := ⟨rfl, rfl, rfl, by decide +kernel, rfl, by decide +kernel, by decide +kernel⟩
abbrev s_is_motley : Stmt := top 16
theorem sc_is_motley : FnScope ["thing"] ["thing"] (defScope s_is_motley) := ⟨rfl, rfl, rfl, by decide +kernel, rfl, by decide +kernel, by decide +kernel⟩
abbrev s_kind_carried : Stmt := top 17
theorem sc_kind_carried : FnScope ["motley", "kind", "boxes", "place", "its_kind", "box"] ["motley", "kind"] (defScope s_kind_carried) := ⟨rfl, rfl, rfl, by decide +kernel, rfl, by decide +kernel, by decide +kernel⟩
abbrev s_motley_carried : Stmt := top 18
theorem sc_motley_carried : FnScope ["motley", "there", "kind"] ["motley"] (defScope s_motley_carried) := ⟨rfl, rfl, rfl, by decide +kernel, rfl, by decide +kernel, by decide +kernel⟩
abbrev s_turned : Stmt := top 19
theorem sc_turned : FnScope ["motley"] ["motley"] (defScope s_turned) := ⟨rfl, rfl, rfl, by decide +kernel, rfl, by decide +kernel, by decide +kernel⟩
abbrev s_motley_undone : Stmt := top 20
theorem sc_motley_undone : FnScope ["motley", "there", "kind"] ["motley"] (defScope s_motley_undone) := ⟨rfl, rfl, rfl, by decide +kernel, rfl, by decide +kernel, by decide +kernel⟩
abbrev s_put_in : Stmt := top 21
theorem sc_put_in : FnScope ["lists", "kind", "number", "numbers", "greater", "put_out"] ["lists", "kind"] (defScope s_put_in) := ⟨rfl, rfl, rfl, by decide +kernel, rfl, by decide +kernel, by decide +kernel⟩
abbrev s_staying : Stmt := top 22
theorem sc_staying : FnScope ["motley", "lists", "place", "kind"] ["motley"] (defScope s_staying) := ⟨rfl, rfl, rfl, by decide +kernel, rfl, by decide +kernel, by decide +kernel⟩
abbrev s_L_cell_at : Stmt := top 24
theorem sc_L_cell_at : FnScope ["_law_script", "_law_k"] ["_law_script", "_law_k"] (defScope s_L_cell_at) := ⟨rfl, rfl, rfl, by decide +kernel, rfl, by decide +kernel, by decide +kernel⟩
abbrev s_L_state : Stmt := top 25
theorem sc_L_state : FnScope ["_law_script", "_law_k", "_law_cell"] ["_law_script", "_law_k"] (defScope s_L_state) := ⟨rfl, rfl, rfl, by decide +kernel, rfl, by decide +kernel, by decide +kernel⟩
abbrev s_L_take : Stmt := top 26
theorem sc_L_take : FnScope ["_law_state_here", "_law_many", "_law_found", "_law_mixed"] ["_law_state_here", "_law_many"] (defScope s_L_take) := ⟨rfl, rfl, rfl, by decide +kernel, rfl, by decide +kernel, by decide +kernel⟩
abbrev s_L_row : Stmt := top 27
theorem sc_L_row : FnScope ["_law_state_here", "_law_gaps", "_law_found", "_law_place", "_law_turn", "_law_size", "_law_ball"] ["_law_state_here", "_law_gaps"] (defScope s_L_row) := ⟨rfl, rfl, rfl, by decide +kernel, rfl, by decide +kernel, by decide +kernel⟩
abbrev s_L_far : Stmt := top 28
theorem sc_L_far : FnScope ["_law_state_here", "_law_row_here", "_law_kind", "_law_far_here", "_law_at"] ["_law_state_here", "_law_row_here"] (defScope s_L_far) := ⟨rfl, rfl, rfl, by decide +kernel, rfl, by decide +kernel, by decide +kernel⟩
abbrev s_L_motley : Stmt := top 29
theorem sc_L_motley : FnScope ["_law_state_here", "_law_gaps", "_law_row_here", "_law_way", "_law_found", "_law_kind", "_law_k", "_law_drawn"] ["_law_state_here", "_law_gaps"] (defScope s_L_motley) := ⟨rfl, rfl, rfl, by decide +kernel, rfl, by decide +kernel, by decide +kernel⟩
abbrev s_L_far_motley : Stmt := top 33
theorem sc_L_far_motley : FnScope ["_law_state_here", "_law_motley_here", "_law_row_here"] ["_law_state_here", "_law_motley_here"] (defScope s_L_far_motley) := ⟨rfl, rfl, rfl, by decide +kernel, rfl, by decide +kernel, by decide +kernel⟩
abbrev s_L_steps_right : Stmt := top 34
theorem sc_L_steps_right : FnScope ["_law_state_here", "_law_motley_here", "_law_here", "_law_due", "_law_turn", "_law_there"] ["_law_state_here", "_law_motley_here"] (defScope s_L_steps_right) := ⟨rfl, rfl, rfl, by decide +kernel, rfl, by decide +kernel, by decide +kernel⟩
abbrev s_law : Stmt := top 35
theorem sc_law : FnScope ["_law_script", "_law_k", "_law_state_here", "_law_motley_here", "_law_row_here", "_law_kind", "_law_plain", "_law_kinds", "_law_block"] ["_law_script"] (defScope s_law) := ⟨rfl, rfl, rfl, by decide +kernel, rfl, by decide +kernel, by decide +kernel⟩
/-! ### the draws -/
def Dok (x : Int) (b : Bool) : Prop := 0 ≤ x ∧ (b = false → x < 2147483647)
def StAt (H : Hp) (a : Addr) (x : Int) (b : Bool) : Prop := H a = some (.lst [.int x, .bl b]) ∧ Dok x b
/-- all but what stands at a is as it was -/
def Keep (a : Addr) (H H' : Hp) : Prop := ∀ c o, c ≠ a → H c = some o → H' c = some o
theorem at_ints {ns : List Int} {k : Int} (h0 : 0 ≤ k) (h1 : k < (ns.length : Int)) : ∃ v : Int, atI (ns.map V.int) k = some (.int v) ∧ ns[k.toNat]? = some v := by
  have hk : k.toNat < ns.length := by omega
  have ek : ((k.toNat : Nat) : Int) = k := by omega
  refine ⟨ns[k.toNat], ?_, List.getElem?_eq_getElem hk⟩
  have q : atI (ns.map V.int) ((k.toNat : Nat) : Int) = some (.int ns[k.toNat]) := atI_nat (by rw [List.getElem?_map, List.getElem?_eq_getElem hk] <;> rfl)
  rw [ek] at q
  exact q
def spCell (K : PySem.W.Frag) : Sp := fun vs H Q _ => ∃ (a : Addr) (ns : List Int) (k : Int), vs = [.ref a, .int k] ∧ SqL K H a (ns.map V.int) ∧ 0 ≤ k ∧ ∀ c : Int, Q (.int c) H
def spState (K : PySem.W.Frag) : Sp := fun vs H Q _ => ∃ (a : Addr) (ns : List Int) (k : Int), vs = [.ref a, .int k] ∧ SqL K H a (ns.map V.int) ∧ 0 ≤ k ∧
  ∀ (r : Addr) (x : Int) (b : Bool), H r = none → Dok x b → Q (.ref r) (upd H r (.lst [.int x, .bl b]))
def spTake (K : PySem.W.Frag) : Sp := fun vs H Q _ => ∃ (a : Addr) (x : Int) (b : Bool) (m : Int), vs = [.ref a, .int m] ∧ StAt H a x b ∧ 0 < m ∧ m < 1073741824 ∧
  ∀ (v x' : Int), 0 ≤ v → v < m → Dok x' b → Q (.int v) (upd H a (.lst [.int x', .bl b]))
section
variable {P : Program} {w : World} {K : PySem.W.Frag} {mg : Str → Option Value} {base : Heap}
set_option maxRecDepth 100000 in
theorem ok_L_cell_at {f : Addr} {fd : FuncData} (F : Fun K "_law_cell_at" "_law_cell_at" s_L_cell_at f fd) (nb : Nb mg)   :
    FnOk P w K mg base CX0 1 f fd ["_law_script", "_law_k"] (spCell K) := by
  have nd := sc_L_cell_at.nd
  refine F.ok (k := 0) sc_L_cell_at (fun vs H Q E h => ?_) (fun cdv A outer s H vs Q E hr h => ?_)
  · obtain ⟨a, ns, k, rfl, _⟩ := h
    rfl
  obtain ⟨a, ns, k, rfl, hS, h0, q⟩ := h
  refine ⟨_, (pss_cons (ps_if (pt_cmpR op_lt (pv 1) (pe_callB call_len_seq rfl nb.len PySem.boot_len (pa_cons (pv 0) pa_nil)) (nomark _))
   (pss_one (ps_ret (pe_ix ix_list (pv 0) (pv 1) (fun _ _ => rfl))))
   pss_nil)
  (pss_one (ps_ret pe_int))), ?_⟩
  refine ⟨_, rfl, _, rfl, a, _, rfl, .inl hS, _, _, rfl, rfl, _, rfl, ?_⟩
  refine ite2 (fun c => ?_) (fun c => ?_)
  · have c' : k < (((ns.map V.int).length : Nat) : Int) := of_decide_eq_true c
    rw [List.length_map] at c'
    obtain ⟨v, q1, _⟩ := at_ints h0 c'
    exact ⟨_, rfl, _, rfl, a, _, _, _, rfl, rfl, hS, q1, q _⟩
  · exact q 0
set_option maxRecDepth 100000 in
theorem ok_L_state {f : Addr} {fd : FuncData} (F : Fun K "_law_state" "_law_state" s_L_state f fd) (nb : Nb mg) (h_L_cell_at : Has P w K mg base 1 "_law_cell_at" ["_law_script", "_law_k"] (spCell K))  :
    FnOk P w K mg base CX0 2 f fd ["_law_script", "_law_k"] (spState K) := by
  have nd := sc_L_state.nd
  refine F.ok (k := 1) sc_L_state (fun vs H Q E h => ?_) (fun cdv A outer s H vs Q E hr h => ?_)
  · obtain ⟨a, ns, k, rfl, _⟩ := h
    rfl
  obtain ⟨a, ns, k, rfl, hS, h0, q⟩ := h
  refine ⟨_, (pss_cons (ps_set (i := 2) nd rfl (Or.inl rfl) (pe_def h_L_cell_at hr (pa_cons (pv 0) (pa_cons (pv 1) pa_nil))))
  (pss_cons (ps_if (pt_cmpR op_ge (pv 2) (pe_op op_pow pe_int pe_int) (nomark _))
   (pss_one (ps_ret (pe_lst (pa_cons (pe_op op_sub (pv 2) (pe_op op_pow pe_int pe_int)) (pa_cons pe_bl pa_nil)))))
   pss_nil)
  (pss_one (ps_ret (pe_lst (pa_cons (pe_op op_mod (pv 2) pe_int) (pa_cons pe_bl pa_nil))))))), ?_⟩
  refine ⟨_, rfl, _, rfl, a, ns, k, rfl, hS, h0, fun c => ?_⟩
  refine ⟨_, rfl, _, _, rfl, rfl, ⟨by decide, by decide, by decide⟩, _, _, rfl, rfl, _, rfl, ?_⟩
  refine ite2 (fun z => ?_) (fun z => ?_)
  · have z' : (10 : Int) ^ 18 ≤ c := of_decide_eq_true z
    refine ⟨_, rfl, _, _, rfl, rfl, ⟨by decide, by decide, by decide⟩, _, _, rfl, rfl, (by show 2 ≤ sizeLine; decide), fun r hr' => q r _ true hr' ⟨?_, fun e => by cases e⟩⟩
    show (0 : Int) ≤ c - 10 ^ 18
    omega
  · refine ⟨_, rfl, _, _, rfl, rfl, (by show (0 : Int) < 2147483647; decide), (by show 2 ≤ sizeLine; decide), fun r hr' => q r _ false hr' ⟨?_, fun _ => ?_⟩⟩
    · exact Int.emod_nonneg _ (by decide)
    · exact Int.emod_lt_of_pos _ (by decide)
set_option maxRecDepth 100000 in
theorem ok_L_take {f : Addr} {fd : FuncData} (F : Fun K "_law_take" "_law_take" s_L_take f fd) (nb : Nb mg)   :
    FnOk P w K mg base CX0 1 f fd ["_law_state_here", "_law_many"] (spTake K) := by
  have nd := sc_L_take.nd
  refine F.ok (k := 0) sc_L_take (fun vs H Q E h => ?_) (fun cdv A outer s H vs Q E hr h => ?_)
  · obtain ⟨a, x, b, m, rfl, _⟩ := h
    rfl
  obtain ⟨a, x, b, m, rfl, ⟨hS, d0, d1⟩, m0, m1, q⟩ := h
  refine ⟨_, (pss_cons (ps_if (pt_truth (pe_ix ix_list (pv 0) pe_int (fun _ _ => rfl)) (fun _ => rfl))
   (pss_cons (ps_set (i := 2) nd rfl (Or.inl rfl) (pe_op op_mod (pe_ix ix_list (pv 0) pe_int (fun _ _ => rfl)) (pv 1)))
  (pss_cons (ps_asg (pe_op op_fdiv (pe_ix ix_list (pv 0) pe_int (fun _ _ => rfl)) (pv 1)) (pg_sub (pv 0) pe_int set_list))
  (pss_one (ps_ret (pv 2)))))
   pss_nil)
  (pss_cons (ps_asg (pe_op op_mod (pe_op op_add (pe_op op_mul (pe_ix ix_list (pv 0) pe_int (fun _ _ => rfl)) pe_int) pe_int) pe_int) (pg_sub (pv 0) pe_int set_list))
  (pss_cons (ps_set (i := 3) nd rfl (Or.inl rfl) (pe_op op_mod (pe_op op_add (pe_op op_add (pe_op op_mul (pe_ix ix_list (pv 0) pe_int (fun _ _ => rfl)) (pe_ix ix_list (pv 0) pe_int (fun _ _ => rfl))) (pe_op op_mul pe_int (pe_ix ix_list (pv 0) pe_int (fun _ _ => rfl)))) pe_int) pe_int))
  (pss_cons (ps_set (i := 3) nd rfl (Or.inl rfl) (pe_op op_mod (pe_op op_add (pe_op op_mul (pv 3) (pv 3)) (pe_op op_mul pe_int (pv 3))) pe_int))
  (pss_one (ps_ret (pe_op op_mod (pe_op op_fdiv (pv 3) pe_int) (pv 1)))))))), ?_⟩
  refine ⟨_, rfl, a, _, _, _, rfl, rfl, SqL.of hS, rfl, b, rfl, ?_⟩
  cases b with
  | true =>
    refine iteT ?_
    refine ⟨_, rfl, a, _, _, _, rfl, rfl, SqL.of hS, rfl, _, rfl, _, _, rfl, rfl, m0, ?_⟩
    refine ⟨_, rfl, a, _, _, _, rfl, rfl, SqL.of hS, rfl, _, rfl, _, _, rfl, rfl, ⟨m0, m1⟩, ?_⟩
    refine ⟨_, rfl, a, _, _, 0, rfl, rfl, hS, rfl, ?_⟩
    refine ⟨_, rfl, ?_⟩
    exact q _ _ (Int.emod_nonneg _ (by omega)) (Int.emod_lt_of_pos _ m0) ⟨Int.ediv_nonneg d0 (by omega), fun e => by cases e⟩
  | false =>
    refine iteF ?_
    have d2 := d1 rfl
    refine ⟨_, rfl, a, _, _, _, rfl, rfl, SqL.of hS, rfl, _, _, rfl, rfl, .inl ⟨by omega, by omega⟩, _, _, rfl, rfl, _, _, rfl, rfl, (by show (0 : Int) < 2147483647; decide), ?_⟩
    refine ⟨_, rfl, a, _, _, 0, rfl, rfl, hS, rfl, ?_⟩
    have e0 : (0 : Int) ≤ (x * 48271 + 29) % 2147483647 := Int.emod_nonneg _ (by decide)
    have e1 : (x * 48271 + 29) % 2147483647 < 2147483647 := Int.emod_lt_of_pos _ (by decide)
    refine ⟨_, rfl, a, _, _, _, rfl, rfl, SqL.of upd_same, rfl, _, rfl, a, _, _, _, rfl, rfl, SqL.of upd_same, rfl, _, _, rfl, rfl, .inl ⟨by omega, by omega⟩, _, rfl, a, _, _, _, rfl, rfl, SqL.of upd_same, rfl, _, _, rfl, rfl, .inl ⟨by decide, by decide⟩, _, _, rfl, rfl, _, _, rfl, rfl, _, _, rfl, rfl, (by show (0 : Int) < 2147483629; decide), ?_⟩
    refine ⟨_, rfl, _, rfl, _, _, rfl, rfl, .inl ⟨?_, ?_⟩, _, rfl, _, _, rfl, rfl, .inl ⟨by decide, by decide⟩, _, _, rfl, rfl, _, _, rfl, rfl, (by show (0 : Int) < 2147483587; decide), ?_⟩
    · exact Int.lt_of_lt_of_le (by decide) (Int.emod_nonneg _ (by decide))
    · exact Int.lt_trans (Int.emod_lt_of_pos _ (by decide)) (by decide)
    refine ⟨_, rfl, _, _, rfl, rfl, ⟨by decide, by decide⟩, _, rfl, _, _, rfl, rfl, m0, ?_⟩
    exact q _ _ (Int.emod_nonneg _ (by omega)) (Int.emod_lt_of_pos _ m0) ⟨e0, fun _ => e1⟩
end
end K74
end
section
namespace K74
open PySem PySem.Spec PyProof.Rows L2
set_option maxHeartbeats 4000000
set_option Elab.async false
set_option linter.unusedVariables false
/-! ### numbers and rows -/
def numB (lo hi : Int) : V → Bool
  | .int i => decide (lo ≤ i) && decide (i ≤ hi)
  | _ => false
theorem kn_cases {H : Hp} {v : V} {T : String} (h : Kn H v T) : (T = "bool" ∧ ∃ b, v = .bl b) ∨ (T = "int" ∧ ∃ i, v = .int i) ∨ (subT T "bool" = false ∧ subT T "int" = false ∧ ∀ lo hi, numB lo hi v = false) := by
  cases h with
  | bl b => exact .inl ⟨rfl, b, rfl⟩
  | int i => exact .inr (.inl ⟨rfl, i, rfl⟩)
  | _ => exact .inr (.inr ⟨by decide, by decide, fun _ _ => rfl⟩)
def spNum : Sp := fun vs H Q _ => ∃ (v : V) (T : String) (lo hi : Int), vs = [v, .int lo, .int hi] ∧ Kn H v T ∧ Q (.bl (numB lo hi v)) H
/-- neighbours -/
def lts (ns : List Int) : Nat → V := fun i => .bl (decide (ns.getD i 0 < ns.getD (i + 1) 0))
def riseB (ns : List Int) : Bool := (List.range (ns.length - 1)).all fun i => decide (ns.getD i 0 < ns.getD (i + 1) 0)
def spRise : Sp := fun vs H Q _ => ∃ (a : Addr) (ns : List Int), vs = [.ref a] ∧ H a = some (.tup (ns.map V.int)) ∧ ns.length ≤ 1000 ∧ ∀ H', Same H H' → Q (.bl (riseB ns)) H'
theorem cut_from (xs : List V) (k : Nat) : cutV xs (some (k : Int)) none = xs.drop k := by
  unfold cutV
  rw [HT.sIx_nat, HT.sIx_none]
  by_cases h : k ≤ xs.length
  · rw [Nat.min_eq_left h, List.take_of_length_le (by rw [List.length_drop]; exact Nat.le_refl _)]
  · rw [Nat.min_eq_right (by omega), List.drop_eq_nil_of_le (Nat.le_refl _), List.drop_eq_nil_of_le (by omega), List.take_nil]
theorem cut_to (xs : List V) (k : Nat) : cutV xs none (some (k : Int)) = xs.take k := by
  unfold cutV
  rw [HT.sIx_nat, HT.sIx_none, List.drop_zero, Nat.sub_zero]
  by_cases h : k ≤ xs.length
  · rw [Nat.min_eq_left h]
  · rw [Nat.min_eq_right (by omega), List.take_length, List.take_of_length_le (by omega)]
theorem rise_list (ns : List Int) : (List.range (ns.length - 1)).map (lts ns) = ((List.range (ns.length - 1)).map fun i => decide (ns.getD i 0 < ns.getD (i + 1) 0)).map V.bl := by
  rw [List.map_map]
  rfl
theorem rise_all (ns : List Int) : ((List.range (ns.length - 1)).map fun i => decide (ns.getD i 0 < ns.getD (i + 1) 0)).all id = riseB ns := by
  unfold riseB
  rw [List.all_map]
  rfl
theorem getD_of {ns : List Int} {i : Nat} {v : Int} (h : (ns.map V.int)[i]? = some (.int v)) : ns.getD i 0 = v := by
  rw [List.getElem?_map] at h
  cases e : ns[i]? with
  | none => rw [e] at h; cases h
  | some z =>
    rw [e] at h
    have : z = v := by simpa using h
    rw [List.getD_eq_getElem?_getD, e, this]
    rfl
theorem int_at {ns : List Int} {i : Nat} {x : V} (h : (ns.map V.int)[i]? = some x) : ∃ v, x = .int v ∧ ns.getD i 0 = v := by
  have h' := h
  rw [List.getElem?_map] at h
  cases e : ns[i]? with
  | none => rw [e] at h; cases h
  | some z =>
    rw [e] at h
    have : x = .int z := by simpa using h.symm
    subst this
    exact ⟨z, rfl, getD_of h'⟩
section
variable {P : Program} {w : World} {K : PySem.W.Frag} {mg : Str → Option Value} {base : Heap}
set_option maxRecDepth 100000 in
theorem ok_is_number {f : Addr} {fd : FuncData} (F : Fun K "is_number" "is_number" s_is_number f fd) (nb : Nb mg)   :
    FnOk P w K mg base CX0 1 f fd ["thing", "least", "greatest"] spNum := by
  have nd := sc_is_number.nd
  refine F.ok (k := 0) sc_is_number (fun vs H Q E h => ?_) (fun cdv A outer s H vs Q E hr h => ?_)
  · obtain ⟨v, T, lo, hi, rfl, _⟩ := h
    rfl
  obtain ⟨v, T, lo, hi, rfl, hk, q⟩ := h
  refine ⟨_, (pss_cons (ps_if (PW.pt (pw_or (pt_truth (pe_callB call_isi rfl nb.isi boot_isinstance (pa_cons (pv 0) (pa_cons (pe_ty nb.bool boot_bool) pa_nil))) (fun _ => rfl)) (pw_or1 (pt_not (pt_truth (pe_callB call_isi rfl nb.isi boot_isinstance (pa_cons (pv 0) (pa_cons (pe_ty nb.int boot_int) pa_nil))) (fun _ => rfl))))))
   (pss_one (ps_ret pe_bl))
   pss_nil)
  (pss_one (ps_ret (pe_chain op_le op_le (pv 1) (pv 0) (pv 2))))), ?_⟩
  refine ⟨_, rfl, _, _, _, rfl, hk, .inr (.inl rfl), _, rfl, ?_⟩
  rcases kn_cases hk with ⟨rfl, b, rfl⟩ | ⟨rfl, i, rfl⟩ | ⟨e1, e2, e3⟩
  · exact iteT (iteT q)
  · refine iteF ⟨_, rfl, _, _, _, rfl, hk, .inl rfl, _, rfl, iteF ?_⟩
    refine ⟨_, rfl, _, rfl, _, _, rfl, rfl, _, rfl, ?_⟩
    by_cases c : lo ≤ i
    · rw [if_pos (decide_eq_true c)]
      refine ⟨_, rfl, _, _, rfl, rfl, ?_⟩
      have e : numB lo hi (.int i) = decide (i ≤ hi) := by show (decide (lo ≤ i) && decide (i ≤ hi)) = _; rw [decide_eq_true c, Bool.true_and]
      rw [e] at q
      exact q
    · rw [if_neg (by rw [decide_eq_false c]; decide)]
      have e : numB lo hi (.int i) = false := by show (decide (lo ≤ i) && decide (i ≤ hi)) = _; rw [decide_eq_false c, Bool.false_and]
      rw [e] at q
      exact q
  · rw [e1]
    refine iteF ⟨_, rfl, _, _, _, rfl, hk, .inl rfl, _, rfl, ?_⟩
    rw [e2]
    rw [e3] at q
    exact iteT q
set_option maxRecDepth 100000 in
theorem ok_is_rising {f : Addr} {fd : FuncData} (F : Fun K "is_rising" "is_rising" s_is_rising f fd) (nb : Nb mg)   :
    FnOk P w K mg base CX0 1 f fd ["numbers"] spRise := by
  have nd := sc_is_rising.nd
  refine F.ok (k := 0) sc_is_rising (fun vs H Q E h => ?_) (fun cdv A outer s H vs Q E hr h => ?_)
  · obtain ⟨a, ns, rfl, _⟩ := h
    rfl
  obtain ⟨a, ns, rfl, ha, hz, q⟩ := h
  refine ⟨_, (pss_one (ps_ret (pe_callB (call_allB rfl) rfl nb.all boot_all (pa_cons (pe_comp2 (sc := defScope s_is_rising) (N0 := ["numbers"]) (N := []) (js := []) rfl rfl rfl (by exact ⟨rfl, by decide +kernel, by decide +kernel, by decide +kernel, rfl, rfl, by decide, by decide +kernel, by decide +kernel⟩) rfl rfl
     (pi_zip true rfl nb.zip (pa_cons (pv 0) (pa_cons (pe_slice sl_tupA (pv 0) (po_some pe_int) po_none) pa_nil)))
     (fun _ _ _ _ _ => by exact pts_nil)
     (fun _ _ _ _ _ => by exact (pe_cmpR op_lt (pv 0) (pv 1) (nomark _)))) pa_nil)))), ?_⟩
  refine ⟨_, rfl, _, rfl, _, rfl, a, _, rfl, ha, fun p H1 s1 hp => ?_⟩
  have hp' : H1 p = some (.tup ((ns.drop 1).map V.int)) := by rw [hp, show ((1 : Int)) = ((1 : Nat) : Int) from rfl, cut_from, List.map_drop]
  have ha' := s1 _ _ ha
  refine ⟨a, p, _, _, rfl, SqT.of ha', SqT.of hp', fun D hD => ?_⟩
  have hl : min (ns.map V.int).length ((ns.drop 1).map V.int).length = ns.length - 1 := by rw [List.length_map, List.length_map, List.length_drop]; omega
  have im := items_zip (K := K) ha' hp'
  rw [hl] at im
  refine comp_go (ns.length - 1) (by rw [sizeLine_eq]; omega) (lts ns) (fun σ => ∃ o1 o2, σ = [o1, o2]) _ hD ⟨_, _, rfl⟩ im (fun i x σ' H2 hi s2 im' hσ R hR => ?_) (fun H' s' hD' => ?_)
  · obtain ⟨o1, o2, rfl⟩ := hσ
    obtain ⟨r, y, z, rfl, hr', hy, hz'⟩ := im'
    obtain ⟨v, rfl, ev⟩ := int_at hy
    rw [List.getElem?_map, List.getElem?_drop, ← List.getElem?_map, Nat.add_comm] at hz'
    obtain ⟨u, rfl, eu⟩ := int_at hz'
    refine ⟨r, _, rfl, SqT.of hr', rfl, _, _, rfl, _, _, rfl, rfl, ?_⟩
    refine ⟨_, rfl, _, rfl, _, _, rfl, rfl, hR _ _ _ ⟨_, _, rfl⟩ (Same.refl _) ?_⟩
    show V.bl (decide (v < u)) = lts ns i
    unfold lts
    rw [ev, eu]
  · rw [rise_list] at hD'
    refine ⟨D, _, rfl, SqL.of hD', ?_⟩
    rw [rise_all]
    exact q H' (s1.trans s')
end
end K74
end
section
namespace K74
open PySem PySem.Spec PyProof.Rows L2
set_option maxHeartbeats 4000000
set_option Elab.async false
set_option linter.unusedVariables false
theorem at_mem {xs : List V} {k : Int} (h0 : 0 ≤ k) (h1 : k < (xs.length : Int)) : ∃ u, atI xs k = some u ∧ u ∈ xs ∧ xs[k.toNat]? = some u := by
  have hk : k.toNat < xs.length := by omega
  have ek : ((k.toNat : Nat) : Int) = k := by omega
  have q : atI xs ((k.toNat : Nat) : Int) = some xs[k.toNat] := atI_nat (List.getElem?_eq_getElem hk)
  rw [ek] at q
  exact ⟨xs[k.toNat], q, List.getElem_mem hk, List.getElem?_eq_getElem hk⟩
theorem Keep.refl (a : Addr) (H : Hp) : Keep a H H := fun _ _ _ h => h
theorem Keep.trans {a : Addr} {H H1 H2 : Hp} (k : Keep a H H1) (k' : Keep a H1 H2) : Keep a H H2 := fun c o n h => k' c o n (k c o n h)
theorem Keep.same {a : Addr} {H H1 H2 : Hp} (k : Keep a H H1) (s : Same H1 H2) : Keep a H H2 := fun c o n h => s c o (k c o n h)
theorem keep_upd (a : Addr) (H : Hp) (o : HO) : Keep a H (upd H a o) := fun c u n h => by rw [upd_ne n]; exact h
theorem StAt.same {H H' : Hp} {a : Addr} {x : Int} {b : Bool} (h : StAt H a x b) (s : Same H H') : StAt H' a x b := ⟨s _ _ h.1, h.2⟩
theorem StAt.upd {H : Hp} {a : Addr} {x' : Int} {b : Bool} (d : Dok x' b) : StAt (L2.upd H a (.lst [.int x', .bl b])) a x' b := ⟨upd_same, d⟩
theorem ints_ne {ns : List Int} {x : Int} {b : Bool} : HO.lst (ns.map V.int) ≠ HO.lst [.int x, .bl b] := by
  intro e
  have e' : ns.map V.int = [.int x, .bl b] := by injection e
  cases ns with
  | nil => cases e'
  | cons n r => cases r with
    | nil => cases e'
    | cons m r => cases e'
/-- a row that is drawn -/
structure RowOk (row : List Int) : Prop where
  len : row.length ≤ 12
  up : row.Pairwise (· < ·)
  bd : ∀ p ∈ row, -20 ≤ p ∧ p ≤ 110
structure RI (H0 : Hp) (a g f : Addr) (b : Bool) (H : Hp) (place bd : Int) : Prop where
  st : ∃ x, StAt H a x b
  kp : Keep a H0 H
  gg : H g = some (.lst [.int 2, .int 5, .int 12])
  ff : ∃ row : List Int, H f = some (.lst (row.map V.int)) ∧ row.length ≤ 12 ∧ row.Pairwise (· < ·) ∧ ∀ p ∈ row, -20 ≤ p ∧ p < place
  lo : -20 ≤ place
  hi : place ≤ bd
  fa : f ≠ a
  ga : g ≠ a
  f0 : H0 f = none
  fg : g ≠ f
theorem RI.take {H0 H : Hp} {a g f : Addr} {b : Bool} {place bd x' : Int} (r : RI H0 a g f b H place bd) (d : Dok x' b) : RI H0 a g f b (upd H a (.lst [.int x', .bl b])) place bd := by
  refine ⟨⟨x', StAt.upd d⟩, r.kp.trans (keep_upd a H _), by rw [upd_ne r.ga]; exact r.gg, ?_, r.lo, r.hi, r.fa, r.ga, r.f0, r.fg⟩
  obtain ⟨row, h, z⟩ := r.ff
  exact ⟨row, by rw [upd_ne r.fa]; exact h, z⟩
theorem RI.new {H0 H : Hp} {a g f p : Addr} {b : Bool} {place bd : Int} {o : HO} (r : RI H0 a g f b H place bd) (hp : H p = none) : RI H0 a g f b (upd H p o) place bd := by
  have s := same_new hp o
  obtain ⟨row, h, z⟩ := r.ff
  obtain ⟨x, hx⟩ := r.st
  exact ⟨⟨x, hx.same s⟩, r.kp.same s, s _ _ r.gg, ⟨row, s _ _ h, z⟩, r.lo, r.hi, r.fa, r.ga, r.f0, r.fg⟩
theorem RI.go {H0 H : Hp} {a g f : Addr} {b : Bool} {place bd p' bd' : Int} (r : RI H0 a g f b H place bd) (h1 : place ≤ p') (h2 : p' ≤ bd') : RI H0 a g f b H p' bd' := by
  obtain ⟨row, h, z1, z2, z3⟩ := r.ff
  exact ⟨r.st, r.kp, r.gg, ⟨row, h, z1, z2, fun p hp => ⟨(z3 p hp).1, by have := (z3 p hp).2; omega⟩⟩, by have := r.lo; omega, h2, r.fa, r.ga, r.f0, r.fg⟩
theorem RI.app {H0 H : Hp} {a g f : Addr} {b : Bool} {place bd : Int} {row : List Int} (r : RI H0 a g f b H place bd) (h : H f = some (.lst (row.map V.int))) (z1 : row.length < 12) (z2 : row.Pairwise (· < ·)) (z3 : ∀ p ∈ row, -20 ≤ p ∧ p < place) :
    RI H0 a g f b (upd H f (.lst (row.map V.int ++ [.int place]))) (place + 1) (bd + 1) := by
  obtain ⟨x, hx⟩ := r.st
  refine ⟨⟨x, ?_, hx.2⟩, fun c o n hc => ?_, by rw [upd_ne r.fg]; exact r.gg, ⟨row ++ [place], ?_, ?_, ?_, ?_⟩, by have := r.lo; omega, by have := r.hi; omega, r.fa, r.ga, r.f0, r.fg⟩
  · rw [upd_ne (Ne.symm r.fa)]; exact hx.1
  · rw [upd_ne (ne_of_none hc r.f0)]; exact r.kp c o n hc
  · rw [upd_same, List.map_append]; rfl
  · rw [List.length_append, List.length_singleton]; omega
  · exact List.pairwise_append.mpr ⟨z2, List.pairwise_singleton _ _, fun p hp q hq => by
      have : q = place := by simpa using hq
      rw [this]; exact (z3 p hp).2⟩
  · intro p hp
    rcases List.mem_append.mp hp with h' | h'
    · have := z3 p h'; omega
    · have : p = place := by simpa using h'
      have := r.lo; omega
def spRow : Sp := fun vs H Q _ => ∃ (a g : Addr) (x : Int) (b : Bool), vs = [.ref a, .ref g] ∧ StAt H a x b ∧ H g = some (.lst [.int 2, .int 5, .int 12]) ∧
  ∀ (r : Addr) (row : List Int) (H' : Hp) (x' : Int), Keep a H H' → StAt H' a x' b → H' r = some (.tup (row.map V.int)) → RowOk row → Q (.ref r) H'
section
variable {P : Program} {w : World} {K : PySem.W.Frag} {mg : Str → Option Value} {base : Heap}
set_option maxRecDepth 100000 in
theorem ok_L_row {f : Addr} {fd : FuncData} (F : Fun K "_law_row" "_law_row" s_L_row f fd) (nb : Nb mg) (h_L_take : Has P w K mg base 1 "_law_take" ["_law_state_here", "_law_many"] (spTake K))  :
    FnOk P w K mg base CX0 2 f fd ["_law_state_here", "_law_gaps"] spRow := by
  have nd := sc_L_row.nd
  refine F.ok (k := 1) sc_L_row (fun vs H Q E h => ?_) (fun cdv A outer s H vs Q E hr h => ?_)
  · obtain ⟨a, g, x, b, rfl, _⟩ := h
    rfl
  obtain ⟨a, g, x, b, rfl, hS, hg, q⟩ := h
  refine ⟨_, (pss_cons (ps_set (i := 2) nd rfl (Or.inl rfl) (pe_lst pa_nil))
  (pss_cons (ps_set (i := 3) nd rfl (Or.inl rfl) (pe_ix ix_list (pe_lst (pa_cons pe_int (pa_cons (pe_un un_neg pe_int) (pa_cons (pe_op op_sub (pe_def h_L_take hr (pa_cons (pv 0) (pa_cons pe_int pa_nil))) pe_int) pa_nil)))) (pe_def h_L_take hr (pa_cons (pv 0) (pa_cons pe_int pa_nil))) (fun _ _ => rfl)))
  (pss_cons (ps_for PassesOwn.never rfl (pi_range1 rfl nb.range (pa_cons (pe_def h_L_take hr (pa_cons (pv 0) (pa_cons pe_int pa_nil))) pa_nil)) (pg_name (i := 4) nd rfl (Or.inl rfl))
   (pss_cons (ps_set (i := 5) nd rfl (Or.inl rfl) (pe_op op_add pe_int (pe_def h_L_take hr (pa_cons (pv 0) (pa_cons (pe_ix ix_list (pe_lst (pa_cons pe_int (pa_cons pe_int (pa_cons pe_int pa_nil)))) (pe_def h_L_take hr (pa_cons (pv 0) (pa_cons pe_int pa_nil))) (fun _ _ => rfl)) pa_nil)))))
  (pss_cons (ps_for PassesOwn.never rfl (pi_range1 rfl nb.range (pa_cons (pv 5) pa_nil)) (pg_name (i := 6) nd rfl (Or.inl rfl))
   (pss_cons (ps_if (pt_cmpR op_lt (pe_callB call_len_seq rfl nb.len PySem.boot_len (pa_cons (pv 2) pa_nil)) pe_int (nomark _))
   (pss_one (ps_expr (pe_bm PySem.F.plainAttrs_list PySem.F.slot_list_append PySem.F.type_list_append mt_append (pv 2) (pa_cons (pv 3) pa_nil))))
   pss_nil)
  (pss_one (ps_set (i := 3) nd rfl (Or.inl rfl) (pe_op op_add (pv 3) pe_int)))))
  (pss_one (ps_set (i := 3) nd rfl (Or.inl rfl) (pe_op op_add (pe_op op_add (pv 3) pe_int) (pe_def h_L_take hr (pa_cons (pv 0) (pa_cons (pe_ix ix_list (pv 1) (pe_def h_L_take hr (pa_cons (pv 0) (pa_cons (pe_callB call_len_seq rfl nb.len PySem.boot_len (pa_cons (pv 1) pa_nil)) pa_nil))) (fun _ _ => rfl)) pa_nil)))))))))
  (pss_one (ps_ret (pe_callTy call_tuple_of rfl nb.tuple boot_tuple (pa_cons (pv 2) pa_nil))))))), ?_⟩
  refine ⟨(by show 0 ≤ sizeLine; decide), fun f hf => ?_⟩
  have fa : f ≠ a := (ne_of_none hS.1 hf).symm
  have fg : g ≠ f := ne_of_none hg hf
  have ga : g ≠ a := ne_of hg hS.1 (ints_ne (ns := [2, 5, 12]))
  have r0 : RI H a g f b (upd H f (.lst [])) (-20) 20 := ⟨⟨x, hS.same (same_new hf _)⟩, (Keep.refl a H).same (same_new hf _), same_new hf _ _ _ hg, ⟨[], upd_same, by simp, .nil, fun p hp => absurd hp (by simp)⟩, by omega, by omega, fa, ga, hf, fg⟩
  obtain ⟨x1, st1⟩ := r0.st
  refine ⟨_, rfl, _, rfl, a, x1, b, 41, rfl, st1, by decide, by decide, fun v1 x2 v10 v11 d2 => ?_⟩
  have r1 := r0.take d2
  refine ⟨_, _, rfl, rfl, (by show 3 ≤ sizeLine; decide), fun p hp => ?_⟩
  have r2 := r1.new (o := .lst [.int 0, .int (-7), .int (v1 - 20)]) hp
  obtain ⟨x3, st3⟩ := r2.st
  refine ⟨_, rfl, a, x3, b, 3, rfl, st3, by decide, by decide, fun v2 x4 v20 v21 d4 => ?_⟩
  have r3 := r2.take d4
  have pa : p ≠ a := fun e => by
    obtain ⟨x5, st5⟩ := r1.st
    rw [e, st5.1] at hp; cases hp
  obtain ⟨u, hu, um, _⟩ := at_mem (xs := [.int 0, .int (-7), .int (v1 - 20)]) v20 (by simpa using v21)
  have hpl : ∃ pl : Int, u = .int pl ∧ -20 ≤ pl ∧ pl ≤ 20 := by
    simp only [List.mem_cons, List.not_mem_nil, or_false] at um
    rcases um with rfl | rfl | rfl
    · exact ⟨_, rfl, by omega, by omega⟩
    · exact ⟨_, rfl, by omega, by omega⟩
    · exact ⟨_, rfl, by omega, by omega⟩
  obtain ⟨pl, rfl, pl0, pl1⟩ := hpl
  refine ⟨p, _, _, _, rfl, rfl, SqL.of (by rw [upd_ne pa]; exact upd_same), hu, ?_⟩
  have r4 := r3.go (p' := pl) (bd' := 20) pl0 pl1
  obtain ⟨x6, st6⟩ := r4.st
  refine ⟨_, rfl, a, x6, b, 6, rfl, st6, by decide, by decide, fun v3 x7 v30 v31 d7 => ?_⟩
  have r5 := r4.take d7
  refine ⟨v3, rfl, by omega, by omega, ?_⟩
  refine for_range (fun i σ H' => ∃ (pl : Int) (o1 o2 o3 : Option V), σ = [some (.ref a), some (.ref g), some (.ref f), some (.int pl), o1, o2, o3] ∧ RI H a g f b H' pl (20 + 17 * (i : Int))) ⟨pl, none, none, none, rfl, by simpa using r5⟩ (fun i σ H' hi hp' => ?_) (fun σ H' hp' => ?_)
  · obtain ⟨pl, o1, o2, o3, rfl, r⟩ := hp'
    obtain ⟨y1, s1⟩ := r.st
    refine ⟨_, rfl, (by show 3 ≤ sizeLine; decide), fun p2 hp2 => ?_⟩
    have ra := r.new (o := .lst [.int 2, .int 3, .int 5]) hp2
    obtain ⟨y2, s2⟩ := ra.st
    refine ⟨_, rfl, a, y2, b, 3, rfl, s2, by decide, by decide, fun w1 y3 w10 w11 e3 => ?_⟩
    have rb := ra.take e3
    have pa2 : p2 ≠ a := fun e => by rw [e, s1.1] at hp2; cases hp2
    obtain ⟨u2, hu2, um2, _⟩ := at_mem (xs := [.int 2, .int 3, .int 5]) w10 (by simpa using w11)
    have hsz : ∃ z : Int, u2 = .int z ∧ 2 ≤ z ∧ z ≤ 5 := by
      simp only [List.mem_cons, List.not_mem_nil, or_false] at um2
      rcases um2 with rfl | rfl | rfl <;> exact ⟨_, rfl, by decide, by decide⟩
    obtain ⟨z, rfl, z0, z1⟩ := hsz
    refine ⟨p2, _, _, _, rfl, rfl, SqL.of (by rw [upd_ne pa2]; exact upd_same), hu2, ?_⟩
    obtain ⟨y4, s4⟩ := rb.st
    refine ⟨a, y4, b, z, rfl, s4, by omega, by omega, fun w2 y5 w20 w21 e5 => ?_⟩
    have rc := rb.take e5
    refine ⟨_, _, rfl, rfl, ?_⟩
    refine ⟨_, rfl, _, rfl, by omega, by omega, ?_⟩
    have en : ((1 + w2).toNat : Int) = 1 + w2 := by omega
    refine for_range (fun j σ H' => ∃ (pl' : Int) (o3 : Option V), σ = [some (.ref a), some (.ref g), some (.ref f), some (.int pl'), some (.int (0 + (i : Int))), some (.int (1 + w2)), o3] ∧ RI H a g f b H' pl' (20 + 17 * (i : Int) + (j : Int))) ⟨pl, o3, rfl, by simpa using rc⟩ (fun j σ H' hj hp' => ?_) (fun σ H' hp' => ?_)
    · obtain ⟨pl', o3, rfl, r⟩ := hp'
      obtain ⟨row, hrow, z1', z2', z3'⟩ := r.ff
      refine ⟨_, rfl, f, _, rfl, .inl (SqL.of hrow), _, _, rfl, rfl, _, rfl, ?_⟩
      refine ite2 (fun c => ?_) (fun c => ?_)
      · have c' : (((row.map V.int).length : Nat) : Int) < 12 := of_decide_eq_true c
        rw [List.length_map] at c'
        refine ⟨_, rfl, .inl ⟨rfl, _, SqL.of hrow⟩, _, rfl, f, _, _, rfl, rfl, hrow, by rw [List.length_map, sizeLine_eq]; omega, ?_⟩
        refine ⟨_, rfl, _, _, rfl, rfl, pl' + 1, _, rfl, ?_⟩
        have := r.app hrow (by omega) z2' z3'
        rw [Int.natCast_add, ← Int.add_assoc]
        exact this
      · refine ⟨_, rfl, _, _, rfl, rfl, pl' + 1, _, rfl, ?_⟩
        refine r.go (by omega) ?_
        have := r.hi
        rw [Int.natCast_add]; omega
    · obtain ⟨pl', o3, rfl, r⟩ := hp'
      refine ⟨_, rfl, _, _, rfl, rfl, _, rfl, _, rfl, _, rfl, _, rfl, g, _, rfl, .inl (SqL.of r.gg), ?_⟩
      obtain ⟨y6, s6⟩ := r.st
      refine ⟨a, y6, b, _, rfl, s6, by show (0 : Int) < 3; decide, by show (3 : Int) < 1073741824; decide, fun w3 y7 w30 w31 e7 => ?_⟩
      have rd := r.take e7
      obtain ⟨u3, hu3, um3, _⟩ := at_mem (xs := [.int 2, .int 5, .int 12]) w30 (by simpa using w31)
      have hgp : ∃ z : Int, u3 = .int z ∧ 2 ≤ z ∧ z ≤ 12 := by
        simp only [List.mem_cons, List.not_mem_nil, or_false] at um3
        rcases um3 with rfl | rfl | rfl <;> exact ⟨_, rfl, by decide, by decide⟩
      obtain ⟨gp, rfl, g0, g1⟩ := hgp
      refine ⟨g, _, _, _, rfl, rfl, SqL.of rd.gg, hu3, ?_⟩
      obtain ⟨y8, s8⟩ := rd.st
      refine ⟨a, y8, b, gp, rfl, s8, by omega, by omega, fun w4 y9 w40 w41 e9 => ?_⟩
      have re := rd.take e9
      refine ⟨_, _, rfl, rfl, _, _, _, _, rfl, re.go (by omega) ?_⟩
      have := r.hi
      rw [en] at this
      rw [Int.natCast_add]; omega
  · obtain ⟨pl, o1, o2, o3, rfl, r⟩ := hp'
    obtain ⟨row, hrow, z1', z2', z3'⟩ := r.ff
    obtain ⟨y1, s1⟩ := r.st
    refine ⟨_, rfl, f, _, rfl, .inl ⟨SqL.of hrow, fun l hl => ?_⟩⟩
    refine q l row _ y1 (r.kp.same (same_new hl _)) (s1.same (same_new hl _)) upd_same ⟨z1', z2', fun p hp => ⟨(z3' p hp).1, ?_⟩⟩
    have h1 := (z3' p hp).2
    have h2 := r.hi
    have h3 : ((v3.toNat : Nat) : Int) ≤ 5 := by omega
    omega
end
end K74
end
section
namespace K74
open PySem PySem.Spec PyProof.Rows L2
set_option maxHeartbeats 4000000
set_option Elab.async false
set_option linter.unusedVariables false
structure Far (row : List Int) : Prop where
  len : row.length ≤ 12
  up : row.Pairwise (· < ·)
  bd : ∀ p ∈ row, -999999800 ≤ p ∧ p ≤ 999999810
theorem RowOk.far {row : List Int} (h : RowOk row) : Far row := ⟨h.len, h.up, fun p hp => by have := h.bd p hp; omega⟩
theorem map_ints (ns : List Int) (h : Int → Int) : (List.range ns.length).map (fun i => V.int (h (ns.getD i 0))) = (ns.map h).map V.int := by
  apply List.ext_getElem?
  intro i
  rw [List.getElem?_map, List.getElem?_map, List.getElem?_map]
  by_cases c : i < ns.length
  · rw [List.getElem?_range c, List.getElem?_eq_getElem c]
    show some (V.int (h (ns.getD i 0))) = some (V.int (h ns[i]))
    rw [List.getD_eq_getElem?_getD, List.getElem?_eq_getElem c]
    rfl
  · rw [List.getElem?_eq_none (by simpa using c), List.getElem?_eq_none (by omega)]
    rfl
theorem far_one {row : List Int} {far : Int} (h : RowOk row) (hf : far = 999999700 ∨ far = -999999700) : Far (row.map fun p => p + far) := by
  refine ⟨by rw [List.length_map]; exact h.len, ?_, fun p hp => ?_⟩
  · rw [List.pairwise_map]
    exact h.up.imp fun {a b} z => by omega
  · obtain ⟨y, hy, rfl⟩ := List.mem_map.mp hp
    have := h.bd y hy
    omega
theorem far_two {row : List Int} {far : Int} (k : Nat) (h : RowOk row) (hf : far = 100000000 ∨ far = 500000000) : Far (((row.take k).map fun p => p - far) ++ (row.drop k).map fun p => p + far) := by
  have up : (row.take k ++ row.drop k).Pairwise (· < ·) := by rw [List.take_append_drop]; exact h.up
  obtain ⟨u1, u2, u3⟩ := List.pairwise_append.mp up
  refine ⟨?_, ?_, fun p hp => ?_⟩
  · rw [List.length_append, List.length_map, List.length_map, List.length_take, List.length_drop]
    have := h.len
    omega
  · refine List.pairwise_append.mpr ⟨?_, ?_, fun x hx y hy => ?_⟩
    · rw [List.pairwise_map]; exact u1.imp fun {a b} z => by omega
    · rw [List.pairwise_map]; exact u2.imp fun {a b} z => by omega
    · obtain ⟨x', hx', rfl⟩ := List.mem_map.mp hx
      obtain ⟨y', hy', rfl⟩ := List.mem_map.mp hy
      have := u3 x' hx' y' hy'
      omega
  · rcases List.mem_append.mp hp with z | z
    · obtain ⟨y, hy, rfl⟩ := List.mem_map.mp z
      have := h.bd y (List.mem_of_mem_take hy)
      omega
    · obtain ⟨y, hy, rfl⟩ := List.mem_map.mp z
      have := h.bd y (List.mem_of_mem_drop hy)
      omega
def spFar : Sp := fun vs H Q _ => ∃ (a t : Addr) (x : Int) (b : Bool) (row : List Int), vs = [.ref a, .ref t] ∧ StAt H a x b ∧ H t = some (.tup (row.map V.int)) ∧ RowOk row ∧
  ∀ (r : Addr) (row2 : List Int) (H' : Hp) (x' : Int), Keep a H H' → StAt H' a x' b → H' r = some (.tup (row2.map V.int)) → Far row2 → row2.length = row.length → Q (.ref r) H'
section
variable {P : Program} {w : World} {K : PySem.W.Frag} {mg : Str → Option Value} {base : Heap}
set_option maxRecDepth 100000 in
theorem ok_L_far {f : Addr} {fd : FuncData} (F : Fun K "_law_far" "_law_far" s_L_far f fd) (nb : Nb mg) (h_L_take : Has P w K mg base 1 "_law_take" ["_law_state_here", "_law_many"] (spTake K))  :
    FnOk P w K mg base CX0 2 f fd ["_law_state_here", "_law_row_here"] spFar := by
  have nd := sc_L_far.nd
  refine F.ok (k := 1) sc_L_far (fun vs H Q E h => ?_) (fun cdv A outer s H vs Q E hr h => ?_)
  · obtain ⟨a, t, x, b, row, rfl, _⟩ := h
    rfl
  obtain ⟨a, t, x, b, row, rfl, hS, ht, ro, q⟩ := h
  refine ⟨_, (pss_cons (ps_set (i := 2) nd rfl (Or.inl rfl) (pe_def h_L_take hr (pa_cons (pv 0) (pa_cons pe_int pa_nil))))
  (pss_cons (ps_set (i := 3) nd rfl (Or.inr rfl) (pe_ix ix_list (pe_lst (pa_cons (pe_op op_sub (pe_op op_pow pe_int pe_int) pe_int) (pa_cons (pe_op op_sub pe_int (pe_op op_pow pe_int pe_int)) (pa_cons (pe_op op_pow pe_int pe_int) (pa_cons (pe_op op_mul pe_int (pe_op op_pow pe_int pe_int)) pa_nil))))) (pv 2) (fun _ _ => rfl)))
  (pss_cons (ps_if (pt_cmpR op_lt (pv 2) pe_int (nomark _))
   (pss_one (ps_ret (pe_callTy call_tuple_of rfl nb.tuple boot_tuple (pa_cons (pe_comp1 (sc := defScope s_L_far) (N0 := ["_law_state_here", "_law_row_here", "_law_kind", "_law_far_here", "_law_at"]) (N := ["_law_far_here"]) (js := [3]) rfl rfl rfl (by exact ⟨rfl, by decide +kernel, by decide +kernel, by decide +kernel, rfl, rfl, by decide, by decide +kernel, by decide +kernel⟩) rfl
     (pi_tup (pv 1))
     (fun _ _ _ _ _ => by exact pts_nil)
     (fun _ _ _ _ _ => by exact (pe_op op_add (pv 0) (pv 1)))) pa_nil))))
   pss_nil)
  (pss_cons (ps_set (i := 4) nd rfl (Or.inl rfl) (pe_def h_L_take hr (pa_cons (pv 0) (pa_cons (pe_op op_add (pe_callB call_len_seq rfl nb.len PySem.boot_len (pa_cons (pv 1) pa_nil)) pe_int) pa_nil))))
  (pss_one (ps_ret (pe_callTy call_tuple_of rfl nb.tuple boot_tuple (pa_cons (pe_op op_cat (pe_comp1 (sc := defScope s_L_far) (N0 := ["_law_state_here", "_law_row_here", "_law_kind", "_law_far_here", "_law_at"]) (N := ["_law_far_here"]) (js := [3]) rfl rfl rfl (by exact ⟨rfl, by decide +kernel, by decide +kernel, by decide +kernel, rfl, rfl, by decide, by decide +kernel, by decide +kernel⟩) rfl
     (pi_tup (pe_slice sl_tupA (pv 1) po_none (po_some (pv 4))))
     (fun _ _ _ _ _ => by exact pts_nil)
     (fun _ _ _ _ _ => by exact (pe_op op_sub (pv 0) (pv 1)))) (pe_comp1 (sc := defScope s_L_far) (N0 := ["_law_state_here", "_law_row_here", "_law_kind", "_law_far_here", "_law_at"]) (N := ["_law_far_here"]) (js := [3]) rfl rfl rfl (by exact ⟨rfl, by decide +kernel, by decide +kernel, by decide +kernel, rfl, rfl, by decide, by decide +kernel, by decide +kernel⟩) rfl
     (pi_tup (pe_slice sl_tupA (pv 1) (po_some (pv 4)) po_none))
     (fun _ _ _ _ _ => by exact pts_nil)
     (fun _ _ _ _ _ => by exact (pe_op op_add (pv 0) (pv 1))))) pa_nil)))))))), ?_⟩
  refine ⟨_, rfl, a, x, b, 4, rfl, hS, by decide, by decide, fun kd x1 k0 k1 d1 => ?_⟩
  have ta : t ≠ a := ne_of ht hS.1 (by intro z; cases z)
  have kp1 := keep_upd a H (.lst [.int x1, .bl b])
  have st1 : StAt (upd H a (.lst [.int x1, .bl b])) a x1 b := StAt.upd d1
  have ht1 := kp1 _ _ ta ht
  generalize upd H a (.lst [.int x1, .bl b]) = H1 at kp1 st1 ht1 ⊢
  refine ⟨_, _, rfl, rfl, ⟨by decide, by decide, by decide⟩, _, _, rfl, rfl, _, _, rfl, rfl, ⟨by decide, by decide, by decide⟩, _, _, rfl, rfl, _, _, rfl, rfl, ⟨by decide, by decide, by decide⟩, _, _, rfl, rfl, ⟨by decide, by decide, by decide⟩, _, _, rfl, rfl, .inl ⟨by decide, by decide⟩, (by show 4 ≤ sizeLine; decide), fun p hp => ?_⟩
  obtain ⟨u, hu, um, ui⟩ := at_mem (xs := [V.int 999999700, V.int (-999999700), V.int 100000000, V.int 500000000]) k0 (by simpa using k1)
  have hfar : ∃ far : Int, u = .int far ∧ (kd < 2 → far = 999999700 ∨ far = -999999700) ∧ (¬ kd < 2 → far = 100000000 ∨ far = 500000000) := by
    have hk : kd = 0 ∨ kd = 1 ∨ kd = 2 ∨ kd = 3 := by omega
    rcases hk with rfl | rfl | rfl | rfl
    · cases ui; exact ⟨_, rfl, fun _ => .inl rfl, fun z => absurd (by decide) z⟩
    · cases ui; exact ⟨_, rfl, fun _ => .inr rfl, fun z => absurd (by decide) z⟩
    · cases ui; exact ⟨_, rfl, fun z => absurd z (by decide), fun _ => .inl rfl⟩
    · cases ui; exact ⟨_, rfl, fun z => absurd z (by decide), fun _ => .inr rfl⟩
  obtain ⟨far, rfl, f1, f2⟩ := hfar
  refine ⟨_, rfl, p, _, _, _, rfl, rfl, SqL.of upd_same, hu, ?_⟩
  have s2 := same_new hp (.lst [.int 999999700, .int (-999999700), .int 100000000, .int 500000000])
  have kp2 := kp1.same s2
  have st2 := st1.same s2
  have ht2 := s2 _ _ ht1
  have s2' : Same H1 (upd H1 p (.lst [.int ((10 : Int) ^ (9 : Int).toNat - 300), .int (300 - (10 : Int) ^ (9 : Int).toNat), .int ((10 : Int) ^ (8 : Int).toNat), .int (5 * (10 : Int) ^ (8 : Int).toNat)])) := same_new hp _
  refine ⟨_, rfl, _, _, rfl, rfl, _, rfl, ?_⟩
  refine ite2 (fun c => ?_) (fun c => ?_)
  · have c' : kd < 2 := of_decide_eq_true c
    refine ⟨_, rfl, t, rfl, ⟨_, SqT.of (s2' _ _ ht1)⟩, fun D hD => ?_⟩
    refine comp_go row.length (by rw [sizeLine_eq]; have := ro.len; omega) (fun i => .int (row.getD i 0 + far)) (fun σ => ∃ o1, σ = [o1, some (.int far)]) _ hD (by exact ⟨_, rfl⟩) (by have := items_tup (K := K) (s2' _ _ ht1); rw [List.length_map] at this; exact this) (fun i z σ' H2 hi s3 im hσ R hR => ?_) (fun H' s' hD' => ?_)
    · obtain ⟨o1, rfl⟩ := hσ
      obtain ⟨v, rfl, ev⟩ := int_at im
      exact ⟨_, rfl, _, rfl, _, _, rfl, rfl, hR _ _ _ ⟨_, rfl⟩ (Same.refl _) (by rw [ev])⟩
    · rw [map_ints row (fun z => z + far)] at hD'
      refine ⟨D, _, rfl, .inl ⟨SqL.of hD', fun l hl => ?_⟩⟩
      have s5 := same_new hl (.tup ((row.map fun z => z + far).map V.int))
      exact q l (row.map fun z => z + far) _ x1 (kp1.same (s2'.trans (s'.trans s5))) (st1.same (s2'.trans (s'.trans s5))) upd_same (far_one ro (f1 c')) (List.length_map ..)
  · have c' : ¬ kd < 2 := of_decide_eq_false (Bool.eq_false_iff.mpr c)
    have kp3 := kp1.same s2'
    have st3 := st1.same s2'
    have ht3 := s2' _ _ ht1
    have rl : ((row.map V.int).length : Int) ≤ 12 := by rw [List.length_map]; have := ro.len; omega
    refine ⟨_, rfl, _, rfl, t, _, rfl, .inr (SqT.of ht3), _, _, rfl, rfl, a, x1, b, _, rfl, st3, by omega, by omega, fun at' x4 a0 a1 d4 => ?_⟩
    have kp4 := kp3.trans (keep_upd a _ (.lst [.int x4, .bl b]))
    have st4 : StAt (upd (upd H1 p (.lst [.int ((10 : Int) ^ (9 : Int).toNat - 300), .int (300 - (10 : Int) ^ (9 : Int).toNat), .int ((10 : Int) ^ (8 : Int).toNat), .int (5 * (10 : Int) ^ (8 : Int).toNat)])) a (.lst [.int x4, .bl b])) a x4 b := StAt.upd d4
    have ht4 := keep_upd a _ (.lst [.int x4, .bl b]) _ _ ta ht3
    have ea : at' = ((at'.toNat : Nat) : Int) := by omega
    refine ⟨_, rfl, _, rfl, _, rfl, t, _, rfl, ht4, fun p1 H5 s5 hp1 => ?_⟩
    rw [ea, cut_to, ← List.map_take] at hp1
    refine ⟨p1, rfl, ⟨_, SqT.of hp1⟩, fun D1 hD1 => ?_⟩
    have l1 : (row.take at'.toNat).length ≤ 12 := by rw [List.length_take]; have := ro.len; omega
    have l2 : (row.drop at'.toNat).length ≤ 12 := by rw [List.length_drop]; have := ro.len; omega
    refine comp_go (row.take at'.toNat).length (by rw [sizeLine_eq]; omega) (fun i => .int ((row.take at'.toNat).getD i 0 - far)) (fun σ => ∃ o1, σ = [o1, some (.int far)]) _ hD1 (by exact ⟨_, rfl⟩) (by have := items_tup (K := K) hp1; rw [List.length_map] at this; exact this) (fun i z σ' H2 hi s3 im hσ R hR => ?_) (fun H6 s6 hD6 => ?_)
    · obtain ⟨o1, rfl⟩ := hσ
      obtain ⟨v, rfl, ev⟩ := int_at im
      exact ⟨_, rfl, _, rfl, _, _, rfl, rfl, hR _ _ _ ⟨_, rfl⟩ (Same.refl _) (by rw [ev])⟩
    rw [map_ints (row.take at'.toNat) (fun z => z - far)] at hD6
    refine ⟨_, rfl, _, rfl, _, rfl, t, _, rfl, s6 _ _ (s5 _ _ ht4), fun p2 H7 s7 hp2 => ?_⟩
    rw [ea, cut_from, ← List.map_drop] at hp2
    refine ⟨p2, rfl, ⟨_, SqT.of hp2⟩, fun D2 hD2 => ?_⟩
    refine comp_go (row.drop at'.toNat).length (by rw [sizeLine_eq]; omega) (fun i => .int ((row.drop at'.toNat).getD i 0 + far)) (fun σ => ∃ o1, σ = [o1, some (.int far)]) _ hD2 (by exact ⟨_, rfl⟩) (by have := items_tup (K := K) hp2; rw [List.length_map] at this; exact this) (fun i z σ' H2 hi s3 im hσ R hR => ?_) (fun H8 s8 hD8 => ?_)
    · obtain ⟨o1, rfl⟩ := hσ
      obtain ⟨v, rfl, ev⟩ := int_at im
      exact ⟨_, rfl, _, rfl, _, _, rfl, rfl, hR _ _ _ ⟨_, rfl⟩ (Same.refl _) (by rw [ev])⟩
    rw [map_ints (row.drop at'.toNat) (fun z => z + far)] at hD8
    have l3 : (((row.take at'.toNat).map fun z => z - far).map V.int).length + (((row.drop at'.toNat).map fun z => z + far).map V.int).length ≤ sizeLine := by
      rw [List.length_map, List.length_map, List.length_map, List.length_map, sizeLine_eq]; omega
    refine ⟨D1, D2, _, _, rfl, rfl, s8 _ _ (s7 _ _ hD6), hD8, l3, fun r hr' => ?_⟩
    refine ⟨r, _, rfl, .inl ⟨SqL.of upd_same, fun l hl => ?_⟩⟩
    have s9 := s5.trans (s6.trans (s7.trans (s8.trans ((same_new hr' _).trans (same_new hl (.tup (((row.take at'.toNat).map fun z => z - far).map V.int ++ ((row.drop at'.toNat).map fun z => z + far).map V.int)))))))
    exact q l (((row.take at'.toNat).map fun z => z - far) ++ (row.drop at'.toNat).map fun z => z + far) _ x4 (kp4.same s9) (st4.same s9) (by rw [upd_same, List.map_append]) (far_two at'.toNat ro (f2 c')) (by rw [List.length_append, List.length_map, List.length_map, ← List.length_append, List.take_append_drop])
end
end K74
end
section
namespace K74
open PySem PySem.Spec PyProof.Rows L2
set_option maxHeartbeats 4000000
set_option maxRecDepth 100000
set_option Elab.async false
set_option linter.unusedVariables false
theorem prs_keep {H H' : Hp} {ys : List V} {bl : List (Int × Int)} (t : Prs H ys bl) (s : ∀ p xs, H p = some (.tup xs) → H' p = some (.tup xs)) : Prs H' ys bl := ⟨t.1, fun j b e => let ⟨p, a, c⟩ := t.2 j b e; ⟨p, a, s _ _ c⟩⟩
theorem prs_snoc {H : Hp} {ys : List V} {bl : List (Int × Int)} {p : Addr} {b : Int × Int} (t : Prs H ys bl) (h : H p = some (.tup [.int b.1, .int b.2])) : Prs H (ys ++ [.ref p]) (bl ++ [b]) := by
  refine ⟨by simp [t.1], fun j c e => ?_⟩
  by_cases z : j < bl.length
  · rw [List.getElem?_append_left z] at e
    obtain ⟨q, e1, e2⟩ := t.2 j c e
    exact ⟨q, by rw [List.getElem?_append_left (by rw [t.1]; exact z)]; exact e1, e2⟩
  · have jl : j < (bl ++ [b]).length := (List.getElem?_eq_some_iff.mp e).1
    have jj : j = bl.length := by rw [List.length_append, List.length_singleton] at jl; omega
    subst jj
    rw [List.getElem?_append_right (Nat.le_refl _), Nat.sub_self] at e
    cases e
    exact ⟨p, by rw [← t.1, List.getElem?_append_right (Nat.le_refl _), Nat.sub_self]; rfl, h⟩
theorem ft_keep {H H' : Hp} {a p : Addr} {x : Int} {b : Bool} {zs : List V} (h : FT H p zs) (st : StAt H a x b) (k : Keep a H H') : FT H' p zs := by
  obtain ⟨o, e, d⟩ := h
  exact ⟨o, k _ _ (ne_of e st.1 (by intro z; cases z)) e, d⟩
def Kinds (ml : List (Int × Int)) : Prop := ∀ q ∈ ml, 1 ≤ q.2 ∧ q.2 ≤ 3
def spMot : Sp := fun vs H Q _ => ∃ (a g : Addr) (x : Int) (b : Bool), vs = [.ref a, .ref g] ∧ StAt H a x b ∧ H g = some (.lst [.int 2, .int 5, .int 12]) ∧
  ∀ (r : Addr) (zs : List V) (ml : List (Int × Int)) (H' : Hp) (x' : Int), Keep a H H' → StAt H' a x' b → FT H' r zs → Prs H' zs ml → RowOk (ml.map (·.1)) → Kinds ml → Q (.ref r) H'
def spFarM : Sp := fun vs H Q _ => ∃ (a t : Addr) (x : Int) (b : Bool) (zs : List V) (ml : List (Int × Int)), vs = [.ref a, .ref t] ∧ StAt H a x b ∧ FT H t zs ∧ Prs H zs ml ∧ RowOk (ml.map (·.1)) ∧ Kinds ml ∧
  ∀ (r : Addr) (zs' : List V) (ml' : List (Int × Int)) (H' : Hp) (x' : Int), Keep a H H' → StAt H' a x' b → FT H' r zs' → Prs H' zs' ml' → Far (ml'.map (·.1)) → Kinds ml' → Q (.ref r) H'
theorem fd_lenM (ml : List (Int × Int)) : (ml.map (·.1)).length = ml.length := List.length_map ..
theorem prs_at {H : Hp} {ys : List V} {bl : List (Int × Int)} (t : Prs H ys bl) {i : Nat} (hi : i < bl.length) : ∃ p, ys[i]? = some (.ref p) ∧ H p = some (.tup [.int (bl.getD i (0, 0)).1, .int (bl.getD i (0, 0)).2]) ∧ bl.getD i (0, 0) ∈ bl := by
  have e := List.getElem?_eq_getElem hi
  have d : bl.getD i (0, 0) = bl[i] := by rw [List.getD_eq_getElem?_getD, e]; rfl
  rw [d]
  obtain ⟨p, a, b⟩ := t.2 i _ e
  exact ⟨p, a, b, List.getElem_mem hi⟩
/-- while a motley row is drawn -/
structure Mi (H0 : Hp) (a f rr : Addr) (b : Bool) (row : List Int) (H : Hp) (ml : List (Int × Int)) : Prop where
  st : ∃ x, StAt H a x b
  kp : Keep a H0 H
  f0 : H0 f = none
  fa : f ≠ a
  hr : H rr = some (.tup (row.map V.int))
  fy : ∃ ys, H f = some (.lst ys) ∧ Prs H ys ml
  kd : Kinds ml
section
variable {H0 H : Hp} {a f rr : Addr} {b : Bool} {row : List Int} {ml : List (Int × Int)}
theorem Mi.take {x' : Int} (m : Mi H0 a f rr b row H ml) (d : Dok x' b) : Mi H0 a f rr b row (upd H a (.lst [.int x', .bl b])) ml := by
  obtain ⟨x, st⟩ := m.st
  obtain ⟨ys, h1, h2⟩ := m.fy
  have tup : ∀ q xs, H q = some (.tup xs) → (upd H a (.lst [.int x', .bl b])) q = some (.tup xs) := fun q xs e => by
    rw [upd_ne (fun z => by rw [z, st.1] at e; cases e)]
    exact e
  exact ⟨⟨x', StAt.upd d⟩, m.kp.trans (keep_upd a H _), m.f0, m.fa, tup _ _ m.hr, ⟨ys, by rw [upd_ne m.fa]; exact h1, prs_keep h2 tup⟩, m.kd⟩
theorem Mi.same {H' : Hp} (m : Mi H0 a f rr b row H ml) (s : Same H H') : Mi H0 a f rr b row H' ml := by
  obtain ⟨x, st⟩ := m.st
  obtain ⟨ys, h1, h2⟩ := m.fy
  exact ⟨⟨x, st.same s⟩, m.kp.same s, m.f0, m.fa, s _ _ m.hr, ⟨ys, s _ _ h1, prs_keep h2 fun p xs e => s _ _ e⟩, m.kd⟩
theorem Mi.app {ys : List V} {p : Addr} {q : Int × Int} (m : Mi H0 a f rr b row H ml) (hf : H f = some (.lst ys)) (pr : Prs H ys ml) (hp : H p = some (.tup [.int q.1, .int q.2])) (h1 : 1 ≤ q.2) (h3 : q.2 ≤ 3) : Mi H0 a f rr b row (upd H f (.lst (ys ++ [.ref p]))) (ml ++ [q]) := by
  obtain ⟨x, st⟩ := m.st
  have tup : ∀ r xs, H r = some (.tup xs) → (upd H f (.lst (ys ++ [.ref p]))) r = some (.tup xs) := fun r xs e => by
    rw [upd_ne (fun z => by rw [z, hf] at e; cases e)]
    exact e
  refine ⟨⟨x, by rw [upd_ne m.fa.symm]; exact st.1, st.2⟩, fun c o n e => by rw [upd_ne (ne_of_none e m.f0)]; exact m.kp c o n e, m.f0, m.fa, tup _ _ m.hr, ⟨_, upd_same, prs_snoc (prs_keep pr tup) (tup _ _ hp)⟩, fun z hz => ?_⟩
  rcases List.mem_append.mp hz with w | w
  · exact m.kd z w
  · rw [List.mem_singleton] at w
    subst w
    exact ⟨h1, h3⟩
end
theorem take_next {row : List Int} {i : Nat} (hi : i < row.length) : row.take (i + 1) = row.take i ++ [row.getD i 0] := by
  rw [List.take_succ, List.getElem?_eq_getElem hi, List.getD_eq_getElem?_getD, List.getElem?_eq_getElem hi]
  rfl
theorem at_int {row : List Int} {i : Nat} (hi : i < row.length) : atI (row.map V.int) ((i : Nat) : Int) = some (.int (row.getD i 0)) := atI_nat (by
  rw [List.getElem?_map, List.getElem?_eq_getElem hi, List.getD_eq_getElem?_getD, List.getElem?_eq_getElem hi]
  rfl)
section
variable {P : Program} {w : World} {K : PySem.W.Frag} {mg : Str → Option Value} {base : Heap}
set_option maxRecDepth 100000 in
theorem ok_L_motley {f : Addr} {fd : FuncData} (F : Fun K "_law_motley" "_law_motley" s_L_motley f fd) (nb : Nb mg) (h_L_row : Has P w K mg base 2 "_law_row" ["_law_state_here", "_law_gaps"] spRow) (h_L_take : Has P w K mg base 1 "_law_take" ["_law_state_here", "_law_many"] (spTake K))  :
    FnOk P w K mg base CX0 3 f fd ["_law_state_here", "_law_gaps"] spMot := by
  have nd := sc_L_motley.nd
  refine F.ok (k := 2) sc_L_motley (fun vs H Q E h => ?_) (fun cdv A outer s H vs Q E hr h => ?_)
  · obtain ⟨a, g, x, b, rfl, _⟩ := h
    rfl
  obtain ⟨a, g, x, b, rfl, hS, hg, q⟩ := h
  refine ⟨_, (pss_cons (ps_set (i := 2) nd rfl (Or.inl rfl) (pe_def h_L_row hr (pa_cons (pv 0) (pa_cons (pv 1) pa_nil))))
(pss_cons (ps_set (i := 3) nd rfl (Or.inl rfl) (pe_def h_L_take hr (pa_cons (pv 0) (pa_cons pe_int pa_nil))))
(pss_cons (ps_set (i := 4) nd rfl (Or.inl rfl) (pe_lst pa_nil))
(pss_cons (ps_set (i := 5) nd rfl (Or.inl rfl) pe_int)
(pss_cons (ps_for PassesOwn.never rfl (pi_range1 rfl nb.range (pa_cons (pe_callB call_len_seq rfl nb.len PySem.boot_len (pa_cons (pv 2) pa_nil)) pa_nil)) (pg_name (i := 6) nd rfl (Or.inl rfl))
(pss_cons (ps_mid (ps_if (PW.pt (pw_and (pt_cmpR op_gt (pv 6) pe_int (nomark _)) (pw_and1 (pt_cmpR op_lt (pe_op op_add (pe_ix ix_tup (pv 2) (pe_op op_sub (pv 6) pe_int) (fun _ _ => rfl)) pe_int) (pe_ix ix_tup (pv 2) (pv 6) (fun _ _ => rfl)) (nomark _)))))
(pss_one (ps_set (i := 5) nd rfl (Or.inl rfl) pe_int))
pss_nil))
(pss_cons (ps_set (i := 7) nd rfl (Or.inl rfl) (pe_op op_add pe_int (pe_def h_L_take hr (pa_cons (pv 0) (pa_cons pe_int pa_nil)))))
(pss_cons (ps_mid (ps_set (i := 5) nd rfl (Or.inl rfl) (pe_ifExp (pt_cmpR op_eq (pv 3) pe_int (nomark _)) (pe_callB (call_max2 rfl) rfl nb.max boot_max (pa_cons (pv 5) (pa_cons (pv 7) pa_nil))) (pv 7))))
(pss_cons (ps_mid (ps_if (PW.pt (pw_and (pt_cmpR op_eq (pv 3) pe_int (nomark _)) (pw_and1 (pt_cmpR op_gt (pe_def h_L_take hr (pa_cons (pv 0) (pa_cons pe_int pa_nil))) pe_int (nomark _)))))
(pss_one (ps_set (i := 5) nd rfl (Or.inl rfl) pe_int))
pss_nil))
(pss_one (ps_expr (pe_bm PySem.F.plainAttrs_list PySem.F.slot_list_append PySem.F.type_list_append mt_append (pv 4) (pa_cons (pe_tup (pa_cons (pe_ix ix_tup (pv 2) (pv 6) (fun _ _ => rfl)) (pa_cons (pv 5) pa_nil))) pa_nil)))))))))
(pss_one (ps_ret (pe_callTy call_tupF rfl nb.tuple boot_tuple (pa_cons (pv 4) pa_nil))))))))), ?_⟩
  refine ⟨_, rfl, _, rfl, a, g, x, b, rfl, hS, hg, fun rr row H1 x1 k1 st1 hrow ro => ?_⟩
  refine ⟨_, rfl, a, x1, b, 3, rfl, st1, by decide, by decide, fun way x2 w0 w1 d2 => ?_⟩
  have rra : rr ≠ a := ne_of hrow st1.1 (by intro z; cases z)
  have k2 := k1.trans (keep_upd a H1 (.lst [.int x2, .bl b]))
  have st2 : StAt (upd H1 a (.lst [.int x2, .bl b])) a x2 b := StAt.upd d2
  have hrow2 := keep_upd a H1 (.lst [.int x2, .bl b]) _ _ rra hrow
  generalize upd H1 a (.lst [.int x2, .bl b]) = H2 at k2 st2 hrow2 ⊢
  refine ⟨(by show 0 ≤ sizeLine; decide), fun f hf => ?_⟩
  have s3 := same_new hf (.lst [])
  have fa : f ≠ a := (ne_of_none st2.1 hf).symm
  have f0 : H f = none := by
    cases e : H f with
    | none => rfl
    | some o => rw [k2 _ _ fa e] at hf; cases hf
  have m0 : Mi H a f rr b row (upd H2 f (.lst [])) [] := ⟨⟨x2, st2.same s3⟩, k2.same s3, f0, fa, s3 _ _ hrow2, ⟨[], upd_same, rfl, fun j c e => by cases e⟩, fun q hq => absurd hq List.not_mem_nil⟩
  generalize upd H2 f (.lst []) = H3 at m0 ⊢
  have rl := ro.len
  refine ⟨_, rfl, rr, _, rfl, .inr (SqT.of m0.hr), _, rfl, by rw [List.length_map]; omega, by rw [List.length_map]; omega, ?_⟩
  rw [List.length_map, Int.toNat_natCast]
  refine for_range (fun i σ H' => ∃ (kd : Int) (ml : List (Int × Int)) (o6 o7 : Option V), σ = [some (.ref a), some (.ref g), some (.ref rr), some (.int way), some (.ref f), some (.int kd), o6, o7] ∧ 1 ≤ kd ∧ kd ≤ 3 ∧ Mi H a f rr b row H' ml ∧ ml.map (·.1) = row.take i) ⟨_, [], _, _, rfl, by decide, by decide, m0, rfl⟩ (fun i σ H4 hi hp => ?_) (fun σ H4 hp => ?_)
  · obtain ⟨kd, ml, o6, o7, rfl, kd1, kd3, mi, em⟩ := hp
    have ml12 : ml.length ≤ 12 := by
      have := congrArg List.length em
      rw [List.length_map, List.length_take] at this
      omega
    rw [Int.zero_add]
    -- the kind ahead
    refine ⟨fun σ H' => ∃ kd : Int, σ = [some (.ref a), some (.ref g), some (.ref rr), some (.int way), some (.ref f), some (.int kd), some (.int (i : Int)), o7] ∧ 1 ≤ kd ∧ kd ≤ 3 ∧ H' = H4, ?_, fun σ H' hp => ?_⟩
    · refine ⟨_, rfl, _, _, rfl, rfl, _, rfl, ?_⟩
      refine ite2 (fun c => ?_) (fun c => ?_)
      · have c' : (i : Int) > 0 := of_decide_eq_true c
        obtain ⟨j, ej⟩ : ∃ j, i = j + 1 := ⟨i - 1, by omega⟩
        subst ej
        have e1 : ((j + 1 : Nat) : Int) - 1 = ((j : Nat) : Int) := by omega
        refine ⟨_, rfl, _, rfl, _, _, rfl, rfl, rr, _, _, _, rfl, rfl, SqT.of mi.hr, (by rw [e1]; exact at_int (by omega)), _, _, rfl, rfl, _, rfl, _, rfl, rr, _, _, _, rfl, rfl, SqT.of mi.hr, at_int hi, _, _, rfl, rfl, _, rfl, ?_⟩
        refine ite2 (fun c2 => ?_) (fun c2 => ?_)
        · exact ⟨1, rfl, by decide, by decide, rfl⟩
        · exact ⟨kd, rfl, kd1, kd3, rfl⟩
      · exact iteF ⟨kd, rfl, kd1, kd3, rfl⟩
    obtain ⟨kd, rfl, kd1, kd3, rfl⟩ := hp
    obtain ⟨x4, st4⟩ := mi.st
    refine ⟨_, rfl, a, x4, b, 3, rfl, st4, by decide, by decide, fun v5 x5 v50 v51 d5 => ?_⟩
    have mi5 := mi.take d5
    generalize upd H' a (.lst [.int x5, .bl b]) = H5 at mi5 ⊢
    refine ⟨_, _, rfl, rfl, ?_⟩
    refine ⟨fun σ H' => ∃ kd : Int, σ = [some (.ref a), some (.ref g), some (.ref rr), some (.int way), some (.ref f), some (.int kd), some (.int (i : Int)), some (.int (1 + v5))] ∧ 1 ≤ kd ∧ kd ≤ 3 ∧ H' = H5, ?_, fun σ H' hp => ?_⟩
    · refine ⟨_, rfl, rfl, _, rfl, ?_⟩
      refine ite2 (fun c => ?_) (fun c => ?_)
      · refine ⟨_, rfl, _, rfl, _, _, rfl, (if 1 + v5 > kd then 1 + v5 else kd), rfl, ?_, ?_, rfl⟩
        · split <;> omega
        · split <;> omega
      · exact ⟨_, rfl, 1 + v5, rfl, by omega, by omega, rfl⟩
    obtain ⟨kd, rfl, kd1, kd3, rfl⟩ := hp
    obtain ⟨x6, st6⟩ := mi5.st
    refine ⟨fun σ H' => ∃ kd : Int, σ = [some (.ref a), some (.ref g), some (.ref rr), some (.int way), some (.ref f), some (.int kd), some (.int (i : Int)), some (.int (1 + v5))] ∧ 1 ≤ kd ∧ kd ≤ 3 ∧ Mi H a f rr b row H' ml, ?_, fun σ H' hp => ?_⟩
    · refine ⟨_, rfl, rfl, _, rfl, ?_⟩
      refine ite2 (fun c => ?_) (fun c => ?_)
      · refine ⟨_, rfl, a, x6, b, 3, rfl, st6, by decide, by decide, fun v7 x7 v70 v71 d7 => ?_⟩
        have mi7 := mi5.take d7
        refine ⟨_, _, rfl, rfl, _, rfl, ?_⟩
        refine ite2 (fun c2 => ?_) (fun c2 => ?_)
        · exact ⟨2, rfl, by decide, by decide, mi7⟩
        · exact ⟨kd, rfl, kd1, kd3, mi7⟩
      · exact iteF ⟨kd, rfl, kd1, kd3, mi5⟩
    obtain ⟨kd, rfl, kd1, kd3, mi8⟩ := hp
    obtain ⟨ys, hfy, pr⟩ := mi8.fy
    refine ⟨_, rfl, .inl ⟨rfl, _, SqL.of hfy⟩, _, rfl, _, rfl, rr, _, _, _, rfl, rfl, SqT.of mi8.hr, at_int hi, _, rfl, (by show 2 ≤ sizeLine; decide), fun p hp => ?_⟩
    have s9 := same_new hp (.tup [.int (row.getD i 0), .int kd])
    refine ⟨f, _, _, rfl, rfl, s9 _ _ hfy, by rw [pr.1, sizeLine_eq]; omega, ?_⟩
    exact ⟨kd, ml ++ [(row.getD i 0, kd)], _, _, rfl, kd1, kd3, (mi8.same s9).app (q := (row.getD i 0, kd)) (s9 _ _ hfy) (prs_keep pr fun r xs e => s9 _ _ e) upd_same kd1 kd3, by rw [List.map_append, em, take_next hi]; rfl⟩
  · obtain ⟨kd, ml, o6, o7, rfl, kd1, kd3, mi, em⟩ := hp
    obtain ⟨ys, hfy, pr⟩ := mi.fy
    obtain ⟨x9, st9⟩ := mi.st
    rw [List.take_length] at em
    refine ⟨_, rfl, f, ys, rfl, SqL.of hfy, fun l o9 hl hd9 => ?_⟩
    have s9 := same_new hl (.frz o9 (.tup ys))
    exact q l ys ml _ x9 (mi.kp.same s9) (st9.same s9) (ft_new hd9) (prs_keep pr fun r xs e => s9 _ _ e) (by rw [em]; exact ro) mi.kd
set_option maxRecDepth 100000 in
theorem ok_L_far_motley {f : Addr} {fd : FuncData} (F : Fun K "_law_far_motley" "_law_far_motley" s_L_far_motley f fd) (nb : Nb mg) (h_L_far : Has P w K mg base 2 "_law_far" ["_law_state_here", "_law_row_here"] spFar)  :
    FnOk P w K mg base CX0 3 f fd ["_law_state_here", "_law_motley_here"] spFarM := by
  have nd := sc_L_far_motley.nd
  refine F.ok (k := 2) sc_L_far_motley (fun vs H Q E h => ?_) (fun cdv A outer s H vs Q E hr h => ?_)
  · obtain ⟨a, t, x, b, zs, ml, rfl, _⟩ := h
    rfl
  obtain ⟨a, t, x, b, zs, ml, rfl, hS, ht, pr, ro, kd, q⟩ := h
  refine ⟨_, (pss_cons (ps_set (i := 2) nd rfl (Or.inr rfl) (pe_def h_L_far hr (pa_cons (pv 0) (pa_cons (pe_callTy call_tuple_of rfl nb.tuple boot_tuple (pa_cons (pe_comp2 (sc := defScope s_L_far_motley) (N0 := ["_law_state_here", "_law_motley_here", "_law_row_here"]) (N := []) (js := []) rfl rfl rfl (by exact ⟨rfl, by decide +kernel, by decide +kernel, by decide +kernel, rfl, rfl, by decide, by decide +kernel, by decide +kernel⟩) rfl rfl
(pi_tup (pv 1))
(fun _ _ _ _ _ => by exact pts_nil)
(fun _ _ _ _ _ => by exact (pv 0))) pa_nil)) pa_nil))))
(pss_one (ps_ret (pe_callTy call_tupF rfl nb.tuple boot_tuple (pa_cons (pe_comp1 (sc := defScope s_L_far_motley) (N0 := ["_law_state_here", "_law_motley_here", "_law_row_here"]) (N := ["_law_motley_here", "_law_row_here"]) (js := [1, 2]) rfl rfl rfl (by exact ⟨rfl, by decide +kernel, by decide +kernel, by decide +kernel, rfl, rfl, by decide, by decide +kernel, by decide +kernel⟩) rfl
(pi_range1 rfl nb.range (pa_cons (pe_callB call_len_seq rfl nb.len PySem.boot_len (pa_cons (pv 2) pa_nil)) pa_nil))
(fun _ _ _ _ _ => by exact pts_nil)
(fun _ _ _ _ _ => by exact (pe_tup (pa_cons (pe_ix (show IxR _ (rIxT K) from ix_tup) (pv 2) (pv 0) (fun _ _ => rfl)) (pa_cons (pe_ix (show IxR _ (rIxT K) from ix_tup) (pe_ix (show IxR _ (rIxT K) from ix_tup) (pv 1) (pv 0) (fun _ _ => rfl)) pe_int (fun _ _ => rfl)) pa_nil))))) pa_nil))))), ?_⟩
  have lm := fd_lenM ml
  have rl := ro.len
  rw [List.length_map] at rl
  refine ⟨_, rfl, _, rfl, t, rfl, ⟨_, ht.sq⟩, fun D hD => ?_⟩
  refine comp_go zs.length (by rw [pr.1, sizeLine_eq]; omega) (fun i => .int (ml.getD i (0, 0)).1) (fun σ => ∃ o0 o1, σ = [o0, o1]) _ hD ⟨_, _, rfl⟩ (items_tupS fun H s => (ht.same s).sq) (fun i z σ' H2 hi s2 im hσ R hR => ?_) (fun H1 s1 hD1 => ?_)
  · obtain ⟨o0, o1, rfl⟩ := hσ
    obtain ⟨p, e, hp, _⟩ := prs_at pr (show i < ml.length by rw [← pr.1]; exact hi)
    rw [e] at im
    cases im
    exact ⟨p, _, rfl, SqT.of (s2 _ _ hp), rfl, _, _, rfl, _, _, rfl, rfl, _, rfl, hR _ _ _ ⟨_, _, rfl⟩ (Same.refl _) rfl⟩
  rw [pr.1, BB.all_list (0, 0) ml (fun q => V.int q.1)] at hD1
  refine ⟨D, _, rfl, .inl ⟨SqL.of hD1, fun l hl => ?_⟩⟩
  have s3 := s1.trans (same_new hl (.tup (ml.map fun q => V.int q.1)))
  have el : (upd H1 l (.tup (ml.map fun q => V.int q.1))) l = some (.tup ((ml.map (·.1)).map V.int)) := by rw [upd_same, List.map_map]; rfl
  generalize upd H1 l (.tup (ml.map fun q => V.int q.1)) = H3 at s3 el ⊢
  refine ⟨a, l, x, b, ml.map (·.1), rfl, hS.same s3, el, ro, fun rf row2 H4 x4 k4 st4 hrf fa ll => ?_⟩
  rw [List.length_map] at ll
  have kp : Keep a H H4 := fun c o n e => k4 c o n (s3 _ _ e)
  have ht4 : FT H4 t zs := ft_keep ht hS kp
  have pr4 : Prs H4 zs ml := prs_keep pr fun p xs e => kp _ _ (ne_of e hS.1 (by intro z; cases z)) e
  have fl := fa.len
  refine ⟨_, rfl, rf, _, rfl, .inr (SqT.of hrf), _, rfl, by rw [List.length_map]; omega, by rw [List.length_map]; omega, fun D2 hD2 => ?_⟩
  rw [List.length_map, Int.toNat_natCast]
  refine comp_tups row2.length (by rw [sizeLine_eq]; omega) (fun i => [.int (row2.getD i 0), .int (ml.getD i (0, 0)).2]) (fun σ => ∃ o0, σ = [o0, some (.ref t), some (.ref rf)]) (fun i H' x => x = .int (0 + (i : Int))) hD2 ⟨_, rfl⟩ (fun i H2 _ => items_rng 0 _ i H2 (Same.refl _)) (fun i z σ' H5 hi s5 im hσ R hR => ?_) (fun H5 ys s5 hD5 hl5 hys => ?_)
  · obtain ⟨o0, rfl⟩ := hσ
    subst im
    obtain ⟨p, e, hp, _⟩ := prs_at pr4 (show i < ml.length by omega)
    rw [Int.zero_add]
    refine ⟨_, rfl, _, rfl, rf, _, _, _, rfl, rfl, SqT.of (s5 _ _ hrf), at_int hi, _, rfl, _, rfl, t, _, _, _, rfl, rfl, (ht4.same s5).sq, atI_nat e, p, _, _, _, rfl, rfl, SqT.of (s5 _ _ hp), (show atI [V.int _, V.int _] ((1 : Nat) : Int) = some _ from atI_nat rfl), ?_⟩
    exact ⟨(by show 2 ≤ sizeLine; decide), fun p hp => hR _ _ _ ⟨_, rfl⟩ (same_new hp _) (by rw [upd_same])⟩
  · refine ⟨D2, ys, rfl, SqL.of hD5, fun l2 o2 hl2 hd2 => ?_⟩
    have s6 := s5.trans (same_new hl2 (.frz o2 (.tup ys)))
    refine q l2 ys ((List.range row2.length).map fun i => (row2.getD i 0, (ml.getD i (0, 0)).2)) _ x4 (kp.same s6) (st4.same s6) (ft_new hd2) ⟨by rw [List.length_map, List.length_range]; exact hl5, fun j c e => ?_⟩ ?_ fun z hz => ?_
    · rw [List.getElem?_map] at e
      have jl : j < row2.length := by
        by_cases c : j < row2.length
        · exact c
        · rw [List.getElem?_eq_none (by simpa using c)] at e; cases e
      rw [List.getElem?_range jl] at e
      cases e
      have gj := List.getElem?_eq_getElem (show j < ys.length by omega)
      obtain ⟨p, e1, e2⟩ := hys j _ gj
      exact ⟨p, by rw [gj, e1], same_new hl2 _ _ _ e2⟩
    · rw [List.map_map]
      have := BB.all_list 0 row2 (fun z => z)
      rw [List.map_id'] at this
      rw [show ((fun x => x.1) ∘ fun i => (row2.getD i 0, (ml.getD i (0, 0)).2)) = fun i => row2.getD i 0 from rfl, this]
      exact fa
    · obtain ⟨i, hi, rfl⟩ := List.mem_map.mp hz
      obtain ⟨_, _, _, hm⟩ := prs_at pr (show i < ml.length by have := List.mem_range.mp hi; omega)
      exact (kd (ml.getD i (0, 0)) hm : _)
end
end K74
end
section
namespace K74
open PySem PySem.Spec PyProof.Rows L2
set_option maxHeartbeats 4000000
set_option Elab.async false
set_option linter.unusedVariables false
abbrev Ok (ns : List Int) (k : Nat) : Prop := BB.Rw ns k (-4000000000) 4000000000 ∧ k ≤ 12
def spCarry : Sp := fun vs H Q _ => ∃ (a : Addr) (ns : List Int) (k z : Nat), vs = [.ref a, .int (z : Int)] ∧ H a = some (.tup (ns.map V.int)) ∧ Ok ns k ∧
  ∀ (r p : Addr) (t : Int) (H' : Hp), Same H H' → H' r = some (.tup ((BB.step z ns).map V.int)) → H' p = some (.tup [.ref r, .int t]) → Q (.ref p) H'
def spCar : Sp := fun vs H Q _ => ∃ (a : Addr) (ns : List Int) (k : Nat), vs = [.ref a] ∧ H a = some (.tup (ns.map V.int)) ∧ Ok ns k ∧
  ∀ (r : Addr) (H' : Hp), Same H H' → H' r = some (.tup ((BB.step k ns).map V.int)) → Q (.ref r) H'
theorem head_rd {K : PySem.W.Frag} {a : Addr} {ns : List Int} {H : Hp} {σ : L2.St} {Q : VK} (h0 : σ[0]? = some (some (.ref a))) (ha : H a = some (.tup (ns.map V.int))) (q : Q (.int (ns.headD 0)) H) :
    tIf (fun σ H Q => tVar 0 σ H fun x H' => ∃ k, TruV K x H' k ∧ Q k H') (tOp (rIxT K) (tVar 0) (tC (.int 0))) (tC (.int 0)) σ H Q := by
  refine ⟨_, h0, !(ns.map V.int).isEmpty, .inr (.inl ⟨_, SqT.of ha, rfl⟩), ?_⟩
  cases ns with
  | nil => exact iteF q
  | cons p r => exact iteT ⟨_, h0, a, _, _, _, rfl, rfl, SqT.of ha, (show atI ((p :: r).map V.int) ((0 : Nat) : Int) = some (.int p) from atI_nat rfl), q⟩
section
variable {P : Program} {w : World} {K : PySem.W.Frag} {mg : Str → Option Value} {base : Heap}
set_option maxRecDepth 100000 in
theorem ok_carry {f : Addr} {fd : FuncData} (F : Fun K "carry" "carry" s_carry f fd) (nb : Nb2 mg)   :
    FnOk P w K mg base CX0 1 f fd ["row", "size"] spCarry := by
  have nd := sc_carry.nd
  refine F.ok (k := 0) sc_carry (fun vs H Q E h => ?_) (fun cdv A outer s H vs Q E hr h => ?_)
  · obtain ⟨a, ns, k, z, rfl, _⟩ := h
    rfl
  obtain ⟨a, ns, k, z, rfl, ha, ok, q⟩ := h
  refine ⟨_, (pss_cons (ps_set (i := 2) nd rfl (Or.inl rfl) (pe_lst pa_nil))
(pss_cons (ps_set (i := 3) nd rfl (Or.inl rfl) pe_int)
(pss_cons (ps_set (i := 4) nd rfl (Or.inl rfl) pe_int)
(pss_cons (ps_set (i := 5) nd rfl (Or.inl rfl) (pe_ifExp (pt_truth (pv 0) (fun _ => rfl)) (pe_ix ix_tup (pv 0) pe_int (fun _ _ => rfl)) pe_int))
(pss_cons (ps_for PassesOwn.never rfl (pi_tup (pv 0)) (pg_name (i := 6) nd rfl (Or.inl rfl))
(pss_cons (ps_set (i := 7) nd rfl (Or.inl rfl) (pe_callB (call_min2 rfl) rfl nb.min boot_min (pa_cons (pv 3) (pa_cons (pe_op op_sub (pv 6) (pv 5)) pa_nil))))
(pss_cons (ps_expr (pe_bm PySem.F.plainAttrs_list PySem.F.slot_list_extend PySem.F.type_list_extend mt_extend (pv 2) (pa_cons (pe_callTy (call_list_rng rfl) rfl nb.list boot_list (pa_cons (pe_callTy call_rng2 rfl nb.range boot_range (pa_cons (pv 5) (pa_cons (pe_op op_add (pv 5) (pv 7)) pa_nil))) pa_nil)) pa_nil)))
(pss_cons (ps_aug (i := 3) nd rfl (Or.inl rfl) (pv 7) ip_sub)
(pss_cons (ps_if (pt_cmpR op_lt (pv 3) (pv 1) (nomark _))
(pss_cons (ps_aug (i := 3) nd rfl (Or.inl rfl) pe_int ip_add)
(pss_one (ps_aug (i := 4) nd rfl (Or.inl rfl) pe_int ip_add)))
(pss_one (ps_expr (pe_bm PySem.F.plainAttrs_list PySem.F.slot_list_append PySem.F.type_list_append mt_append (pv 2) (pa_cons (pv 6) pa_nil)))))
(pss_one (ps_set (i := 5) nd rfl (Or.inl rfl) (pe_op op_add (pv 6) pe_int))))))))
(pss_cons (ps_expr (pe_bm PySem.F.plainAttrs_list PySem.F.slot_list_extend PySem.F.type_list_extend mt_extend (pv 2) (pa_cons (pe_callTy (call_list_rng rfl) rfl nb.list boot_list (pa_cons (pe_callTy call_rng2 rfl nb.range boot_range (pa_cons (pv 5) (pa_cons (pe_op op_add (pv 5) (pv 3)) pa_nil))) pa_nil)) pa_nil)))
(pss_one (ps_ret (pe_tup (pa_cons (pe_callTy call_tuple_of rfl nb.tuple boot_tuple (pa_cons (pv 2) pa_nil)) (pa_cons (pv 4) pa_nil))))))))))), ?_⟩
  obtain ⟨rw_, k12⟩ := ok
  refine ⟨(by show 0 ≤ sizeLine; decide), fun f hf => ?_⟩
  have s1 := same_new hf (.lst [])
  refine head_rd (K := K) rfl (s1 _ _ ha) ?_
  have hb0 : -4000000000 ≤ ns.headD 0 ∧ ns.headD 0 ≤ 4000000000 ∧ ∀ p ∈ ns, ns.headD 0 ≤ p := by
    cases ns with
    | nil => exact ⟨by decide, by decide, fun p hp => by cases hp⟩
    | cons p r =>
      have := rw_.bd p (List.mem_cons_self ..)
      refine ⟨this.1, this.2, fun x hx => ?_⟩
      rcases List.mem_cons.mp hx with rfl | hx
      · exact Int.le_refl _
      · exact Int.le_of_lt ((List.pairwise_cons.mp rw_.up).1 x hx)
  refine ⟨_, rfl, a, rfl, ⟨_, SqT.of (s1 _ _ ha)⟩, ?_⟩
  refine for_tup (xs := ns.map V.int) (fun i σ H' => ∃ (bh : List Int) (L : Nat) (l t box : Int) (o6 o7 : Option V), σ = [some (.ref a), some (.int (z : Int)), some (.ref f), some (.int l), some (.int t), some (.int box), o6, o7] ∧ l = (L : Int) ∧ Same H H' ∧ H' f = some (.lst (bh.map V.int)) ∧
      bh ++ BB.sp z L box (ns.drop i) = BB.step z ns ∧ bh.length + L = i ∧ (∀ p ∈ ns.drop i, box ≤ p) ∧ -4000000000 ≤ box ∧ box ≤ 4000000001) ?_ (fun i σ H' _ hp => ?_) (fun i x σ H' hxi hp => ?_) (fun σ H' hp => ?_)
  · exact ⟨[], 0, _, _, _, _, _, rfl, rfl, s1, upd_same, rfl, rfl, hb0.2.2, hb0.1, by omega⟩
  · obtain ⟨bh, L, l, t, box, o6, o7, rfl, el, sm, hfh, _⟩ := hp
    exact SqT.of (sm _ _ ha)
  · obtain ⟨bh, L, l, t, box, o6, o7, rfl, el, sm, hfh, eq, cnt, ge, b1, b2⟩ := hp
    have hil : i < ns.length := by
      have := (List.getElem?_eq_some_iff.mp hxi).1
      simpa using this
    have k1 := rw_.len
    obtain ⟨p, rfl, ep⟩ := int_at hxi
    have edr : ns.drop i = p :: ns.drop (i + 1) := by
      rw [List.drop_eq_getElem_cons hil]
      have : ns[i] = p := by rw [← ep, List.getD_eq_getElem?_getD, List.getElem?_eq_getElem hil]; rfl
      rw [this]
    have hbp : box ≤ p := ge p (by rw [edr]; exact List.mem_cons_self ..)
    have pb := rw_.bd p (List.mem_of_mem_drop (by rw [edr]; exact List.mem_cons_self .. : p ∈ ns.drop i))
    rw [edr] at eq
    unfold BB.sp at eq
    have em : (if p - box < l then p - box else l) = ((min L (p - box).toNat : Nat) : Int) := by
      rw [el]
      split <;> omega
    generalize hm : min L (p - box).toNat = m at eq em
    refine ⟨_, rfl, _, rfl, _, rfl, _, _, rfl, rfl, _, _, rfl, ?_⟩
    refine ⟨_, rfl, .inl ⟨rfl, _, SqL.of hfh⟩, _, rfl, _, rfl, _, rfl, _, _, rfl, rfl, _, _, rfl, fun p1 hp1 => ?_⟩
    refine ⟨p1, _, _, rfl, upd_same, ⟨by omega, by omega, by omega, by omega⟩, by rw [sizeLine_eq]; omega, fun l1 hl1 => ?_⟩
    rw [em] at hl1 ⊢
    have en : (box + (m : Int) - box).toNat = m := by omega
    rw [en]
    have s3 := (same_new hp1 (.rng box (box + (m : Int)))).trans (same_new hl1 (.lst ((ups box m).map V.int)))
    have hl1' : (upd (upd H' p1 (.rng box (box + (m : Int)))) l1 (.lst ((ups box m).map V.int))) l1 = some (.lst ((ups box m).map V.int)) := upd_same
    have hf1 := s3 _ _ hfh
    have sm3 := sm.trans s3
    generalize upd (upd H' p1 (.rng box (box + (m : Int)))) l1 (.lst ((ups box m).map V.int)) = H3 at s3 hl1' hf1 sm3 ⊢
    have lup : (ups box m).length = m := ups_length ..
    have mle : m ≤ L := by omega
    refine ⟨f, l1, _, _, rfl, rfl, hf1, hl1', by rw [List.length_map, List.length_map, lup, sizeLine_eq]; omega, ?_⟩
    have hf4 : (upd H3 f (.lst (bh.map V.int ++ (ups box m).map V.int))) f = some (.lst ((bh ++ ups box m).map V.int)) := by rw [upd_same, List.map_append]
    have sm4 : Same H (upd H3 f (.lst (bh.map V.int ++ (ups box m).map V.int))) := fun b o hb => by rw [upd_ne (ne_of_none hb hf)]; exact sm3 b o hb
    generalize upd H3 f (.lst (bh.map V.int ++ (ups box m).map V.int)) = H4 at hf4 sm4 ⊢
    refine ⟨_, rfl, _, rfl, _, _, rfl, rfl, ?_⟩
    have ll : l - (m : Int) = ((L - m : Nat) : Int) := by omega
    refine ⟨_, rfl, _, rfl, _, _, rfl, rfl, _, rfl, ?_⟩
    have nge : ∀ x ∈ ns.drop (i + 1), p + 1 ≤ x := fun x hx => by
      have up2 : (p :: ns.drop (i + 1)).Pairwise (· < ·) := by rw [← edr]; exact rw_.up.sublist (List.drop_sublist ..)
      have := (List.pairwise_cons.mp up2).1 x hx
      omega
    refine ite2 (fun c => ?_) (fun c => ?_)
    · have c' : l - (m : Int) < (z : Int) := of_decide_eq_true c
      rw [if_pos (by omega), ← List.append_assoc] at eq
      refine ⟨_, rfl, _, _, rfl, rfl, _, rfl, _, _, rfl, rfl, _, rfl, _, _, rfl, rfl, ?_⟩
      exact ⟨bh ++ ups box m, L - m + 1, _, _, _, _, _, rfl, (by show l - (m : Int) + 1 = _; omega), sm4, hf4, eq, by rw [List.length_append, lup]; omega, nge, (by show _ ≤ p + 1; omega), (by show p + 1 ≤ _; omega)⟩
    · have c' : ¬ l - (m : Int) < (z : Int) := of_decide_eq_false (Bool.eq_false_iff.mpr c)
      rw [if_neg (by omega), ← List.append_assoc] at eq
      refine ⟨_, rfl, .inl ⟨rfl, _, SqL.of hf4⟩, _, rfl, f, _, _, rfl, rfl, hf4, by rw [List.length_map, List.length_append, lup, sizeLine_eq]; omega, ?_⟩
      have hf5 : (upd H4 f (.lst ((bh ++ ups box m).map V.int ++ [.int p]))) f = some (.lst ((bh ++ ups box m ++ [p]).map V.int)) := by rw [upd_same, List.map_append (l₂ := [p])]; rfl
      have sm5 : Same H (upd H4 f (.lst ((bh ++ ups box m).map V.int ++ [.int p]))) := fun b o hb => by rw [upd_ne (ne_of_none hb hf)]; exact sm4 b o hb
      refine ⟨_, rfl, _, _, rfl, rfl, ?_⟩
      exact ⟨bh ++ ups box m ++ [p], L - m, _, _, _, _, _, rfl, ll, sm5, hf5, by rw [List.append_assoc]; exact eq, by rw [List.length_append, List.length_append, lup, List.length_singleton]; omega, nge, (by show _ ≤ p + 1; omega), (by show p + 1 ≤ _; omega)⟩
  · obtain ⟨bh, L, l, t, box, o6, o7, rfl, el, sm, hfh, eq, cnt, ge, b1, b2⟩ := hp
    rw [List.length_map] at cnt eq
    rw [List.drop_length] at eq
    have k1 := rw_.len
    have eq' : bh ++ ups box L = BB.step z ns := eq
    refine ⟨_, rfl, .inl ⟨rfl, _, SqL.of hfh⟩, _, rfl, _, rfl, _, rfl, _, _, rfl, rfl, _, _, rfl, fun p1 hp1 => ?_⟩
    refine ⟨p1, _, _, rfl, upd_same, ⟨by omega, by omega, by omega, by omega⟩, by rw [sizeLine_eq]; omega, fun l1 hl1 => ?_⟩
    have en : (box + l - box).toNat = L := by omega
    rw [en]
    have s3 := (same_new hp1 (.rng box (box + l))).trans (same_new hl1 (.lst ((ups box L).map V.int)))
    have hl1' : (upd (upd H' p1 (.rng box (box + l))) l1 (.lst ((ups box L).map V.int))) l1 = some (.lst ((ups box L).map V.int)) := upd_same
    have hf1 := s3 _ _ hfh
    have sm3 := sm.trans s3
    generalize upd (upd H' p1 (.rng box (box + l))) l1 (.lst ((ups box L).map V.int)) = H3 at s3 hl1' hf1 sm3 ⊢
    have lup : (ups box L).length = L := ups_length ..
    refine ⟨f, l1, _, _, rfl, rfl, hf1, hl1', by rw [List.length_map, List.length_map, lup, sizeLine_eq]; omega, ?_⟩
    have hf4 : (upd H3 f (.lst (bh.map V.int ++ (ups box L).map V.int))) f = some (.lst ((BB.step z ns).map V.int)) := by rw [upd_same, ← eq', List.map_append]
    have sm4 : Same H (upd H3 f (.lst (bh.map V.int ++ (ups box L).map V.int))) := fun b o hb => by rw [upd_ne (ne_of_none hb hf)]; exact sm3 b o hb
    generalize upd H3 f (.lst (bh.map V.int ++ (ups box L).map V.int)) = H4 at hf4 sm4 ⊢
    refine ⟨_, rfl, f, _, rfl, .inl ⟨SqL.of hf4, fun l2 hl2 => ?_⟩⟩
    refine ⟨_, rfl, (by show 2 ≤ sizeLine; decide), fun p2 hp2 => ?_⟩
    have s5 := same_new hl2 (.tup ((BB.step z ns).map V.int))
    have s6 := same_new hp2 (.tup [.ref l2, .int t])
    exact q l2 p2 t _ (sm4.trans (s5.trans s6)) (s6 _ _ upd_same) upd_same
set_option maxRecDepth 100000 in
theorem ok_carried {f : Addr} {fd : FuncData} (F : Fun K "carried" "carried" s_carried f fd) (nb : Nb2 mg) (h_carry : Has P w K mg base 1 "carry" ["row", "size"] spCarry)  :
    FnOk P w K mg base CX0 2 f fd ["row"] spCar := by
  have nd := sc_carried.nd
  refine F.ok (k := 1) sc_carried (fun vs H Q E h => ?_) (fun cdv A outer s H vs Q E hr h => ?_)
  · obtain ⟨a, ns, k, rfl, _⟩ := h
    rfl
  obtain ⟨a, ns, k, rfl, ha, ok, q⟩ := h
  refine ⟨_, (pss_cons (ps_asg (pe_def h_carry hr (pa_cons (pv 0) (pa_cons (pe_callB call_len_seq rfl nb.len PySem.boot_len (pa_cons (pv 0) pa_nil)) pa_nil))) (pg_tup rfl (pgs_cons (pg_name (i := 1) nd rfl (Or.inl rfl)) (pgs_cons (pg_name (i := 2) nd rfl (Or.inl rfl)) pgs_nil))))
(pss_one (ps_ret (pv 1)))), ?_⟩
  have hl : (ns.map V.int).length = k := by rw [List.length_map]; exact ok.1.len
  refine ⟨_, rfl, _, rfl, a, _, rfl, .inr (SqT.of ha), a, ns, k, k, ?_, ha, ok, fun r2 p2 t H2 s2 h2 h2' => ?_⟩
  · rw [hl]; rfl
  refine ⟨p2, _, rfl, SqT.of h2', rfl, _, _, rfl, _, _, rfl, rfl, ?_⟩
  exact ⟨_, rfl, q r2 H2 s2 h2⟩
end
end K74
end
section
namespace K74
open PySem PySem.Spec PyProof.Rows L2
set_option maxHeartbeats 4000000
set_option maxRecDepth 100000
set_option Elab.async false
set_option linter.unusedVariables false
def spNeed : Sp := fun vs H Q _ => ∃ (v : V) (T : String) (lo hi : Int), vs = [v, .int lo, .int hi] ∧ Kn H v T ∧ numB lo hi v = true ∧ Q .non H
/-- a motley row is asked, a motley row told -/
def spOf (f : BB.Ps → BB.Ps) : Sp := fun vs H Q _ => ∃ (t : Addr) (zs : List V) (ml : BB.Ps), vs = [.ref t] ∧ FT H t zs ∧ Prs H zs ml ∧ BB.Mo ml ∧
  ∀ (r : Addr) (zs' : List V) (H' : Hp), Same H H' → FT H' r zs' → Prs H' zs' (f ml) → Q (.ref r) H'
def spKc : Sp := fun vs H Q _ => ∃ (t : Addr) (k : Int) (zs : List V) (ml : BB.Ps), vs = [.ref t, .int k] ∧ 1 ≤ k ∧ k ≤ 3 ∧ FT H t zs ∧ Prs H zs ml ∧ BB.Mo ml ∧
  ∀ (r : Addr) (zs' : List V) (H' : Hp), Same H H' → FT H' r zs' → Prs H' zs' (BB.kc k ml) → Q (.ref r) H'
theorem prs_same {H H' : Hp} {ys : List V} {bl : List (Int × Int)} (t : Prs H ys bl) (s : Same H H') : Prs H' ys bl := prs_keep t fun p xs e => s _ _ e
theorem kvi_ki (dl : BB.Ps) : KI (dl.map kvI) (BB.kys dl) := by
  unfold KI
  rw [List.map_map, List.map_map]
  rfl
theorem kvi_drop (dl : BB.Ps) (p : Int) : dropK (dl.map kvI) (Sum.inl p) = (BB.cut dl p).map kvI := by
  unfold dropK BB.cut
  rw [List.filter_map]
  congr 1
  apply List.filter_congr
  intro e _
  show decide ((Sum.inl e.1 : Key) ≠ Sum.inl p) = decide (e.1 ≠ p)
  rw [decide_eq_decide]
  exact ⟨fun h z => h (by rw [z]), fun h z => h (Sum.inl.inj z)⟩
theorem kvi_put (dl : BB.Ps) (p k : Int) (h : p ∉ BB.kys dl) : putK (dl.map kvI) (Sum.inl p) (.int k) = (dl ++ [(p, k)]).map kvI := by
  rw [putK_new, List.map_append]
  · rfl
  · have := ki_mem (kvi_ki dl) p
    rw [decide_eq_false h] at this
    cases e : valV (dl.map kvI) (Sum.inl p) with
    | none => rfl
    | some v => rw [e] at this; cases this
theorem cut_no {dl : BB.Ps} {p x : Int} (h : x ∉ BB.kys dl) : x ∉ BB.kys (BB.cut dl p) := fun z => h (by rw [BB.cut_kys] at z; exact (List.mem_filter.mp z).1)
def xo (j : Nat) (σ : L2.St) : Int := match σ[j]? with
  | some (some (V.int x)) => x
  | _ => 0
theorem hop_start (dl : BB.Ps) (p : Int) : BB.hop dl p = BB.nxF dl.length (BB.kys dl) (p + 1) ∧ BB.cnt (BB.kys dl) (p + 1) ≤ dl.length := ⟨rfl, by have := BB.cnt_le (BB.kys dl) (p + 1); rw [List.length_map] at this; exact this⟩
theorem pairs_dict {H : Hp} {zs : List V} {ml : BB.Ps} (pr : Prs H zs ml) (j : Nat) (v : V) (h : zs[j]? = some v) : ∃ (p : Addr) (k : Int) (x : V), v = .ref p ∧ H p = some (.tup [.int k, x]) ∧ (ml.map fun q => (q.1, V.int q.2))[j]? = some (k, x) := by
  have jl : j < ml.length := by rw [← pr.1]; exact (List.getElem?_eq_some_iff.mp h).1
  obtain ⟨p, e1, e2⟩ := pr.2 j _ (List.getElem?_eq_getElem jl)
  rw [h] at e1
  cases e1
  exact ⟨p, _, _, rfl, e2, by rw [List.getElem?_map, List.getElem?_eq_getElem jl]; rfl⟩
theorem prs_rev {H : Hp} {zs : List V} {ml : BB.Ps} (pr : Prs H zs ml) : Prs H zs.reverse ml.reverse := by
  refine ⟨by rw [List.length_reverse, List.length_reverse, pr.1], fun j b e => ?_⟩
  have jl : j < ml.length := by have := (List.getElem?_eq_some_iff.mp e).1; rw [List.length_reverse] at this; exact this
  rw [List.getElem?_reverse jl] at e
  obtain ⟨p, e1, e2⟩ := pr.2 _ b e
  exact ⟨p, by rw [List.getElem?_reverse (by rw [pr.1]; exact jl), pr.1]; exact e1, e2⟩
theorem items_revS {K : PySem.W.Frag} {a : Addr} {xs : List V} {H : Hp} (q : SqT K H a xs) (i : Nat) :
    (i < xs.length → (Itv K a xs.length).go i H ∧ ∀ x H2, (Itv K a xs.length).yld i H x H2 → Same H H2 ∧ xs.reverse[i]? = some x) ∧ (xs.length ≤ i → (Itv K a xs.length).stop i H) := by
  refine ⟨fun hi => ?_, fun hi => hi⟩
  have hr : i < xs.reverse.length := by rw [List.length_reverse]; exact hi
  refine ⟨⟨xs, xs.reverse[i], q, rfl, ?_⟩, fun x H2 ⟨e, y⟩ => ?_⟩
  · exact List.getElem?_eq_getElem hr
  · subst e
    exact ⟨Same.refl _, y xs q rfl⟩
section
variable {P : Program} {w : World} {K : PySem.W.Frag} {mg : Str → Option Value} {base : Heap} {c0 kk : Addr} {bm0 : List Value}
theorem ok_need_number {f : Addr} {fd : FuncData} (F : Fun K "need_number" "need_number" s_need_number f fd) (h_is_number : Has P w K mg base 1 "is_number" ["thing", "least", "greatest"] spNum) :
    FnOk P w K mg base CX0 2 f fd ["thing", "least", "greatest"] spNeed := by
  have nd := sc_need_number.nd
  refine F.ok (k := 1) sc_need_number (fun vs H Q E h => ?_) (fun cdv A outer s H vs Q E hr h => ?_)
  · obtain ⟨v, T, lo, hi, rfl, _⟩ := h
    rfl
  obtain ⟨v, T, lo, hi, rfl, kn, nm, q⟩ := h
  refine ⟨_, (pss_one (ps_if (pt_not (pt_truth (pe_def h_is_number hr (pa_cons (pv 0) (pa_cons (pv 1) (pa_cons (pv 2) pa_nil)))) (fun _ => rfl)))
    (pss_one ps_never)
    pss_nil)), ?_⟩
  refine ⟨_, rfl, _, rfl, _, rfl, v, T, lo, hi, rfl, kn, _, rfl, ?_⟩
  rw [nm]
  exact iteF q
set_option maxRecDepth 100000 in
theorem ok_kind_carried {f : Addr} {fd : FuncData} (F : Fun K "kind_carried" "kind_carried" s_kind_carried f fd) (nb : Nb3 mg) (h_need_number : Has P w K mg base 2 "need_number" ["thing", "least", "greatest"] spNeed) (c_KINDS : ∃ u, mg "KINDS" = some u ∧ RelV (.ref kk) u) (hK : ∀ H : Hp, SqT K H kk [.int 1, .int 2, .int 3]) :
    FnOk P w K mg base CX0 3 f fd ["motley", "kind"] spKc := by
  have nd := sc_kind_carried.nd
  refine F.ok (k := 2) sc_kind_carried (fun vs H Q E h => ?_) (fun cdv A outer s H vs Q E hr h => ?_)
  · obtain ⟨t, k, zs, ml, rfl, _⟩ := h
    rfl
  obtain ⟨t, k, zs, ml, rfl, k1, k3, ht, pr, mo, q⟩ := h
  refine ⟨_, (pss_cons (ps_expr (pe_def h_need_number hr (pa_cons (pv 1) (pa_cons (pe_ix ix_tup (pe_const c_KINDS) pe_int (fun _ _ => rfl)) (pa_cons (pe_ix ix_tup (pe_const c_KINDS) (pe_un un_neg pe_int) (fun _ _ => rfl)) pa_nil)))))
(pss_cons (ps_set (i := 2) nd rfl (Or.inl rfl) (pe_callTy (call_dictT rfl) rfl nb.dict boot_dict (pa_cons (pv 0) pa_nil)))
(pss_cons (ps_for PassesOwn.never rfl (pi_tup (pv 0)) (pg_tup rfl (pgs_cons (pg_name (i := 3) nd rfl (Or.inl rfl)) (pgs_cons (pg_name (i := 4) nd rfl (Or.inl rfl)) pgs_nil)))
(pss_one (ps_if (pt_cmpR op_eq (pv 4) (pv 1) (nomark _))
(pss_cons (ps_set (i := 5) nd rfl (Or.inl rfl) (pe_op op_add (pv 3) pe_int))
(pss_cons (ps_while PassesOwn.never (pt_cmp (pc_din (hu1 hr) (pv 5) (pv 2)))
(pss_one (ps_aug (i := 5) nd rfl (Or.inl rfl) pe_int ip_add)))
(pss_cons (ps_ddel (pv 2) (pv 3))
(pss_one (ps_dput (hu1 hr) (pv 2) (pv 5) (pv 1) rfl)))))
pss_nil)))
(pss_one (ps_ret (pe_callTy call_tupF rfl nb.tuple boot_tuple (pa_cons (pe_callB (call_sortI rfl) rfl nb.sorted boot_sorted (pa_cons (pe_bm0 PySem.F.plainAttrs_dict PySem.F.slot_dict_items PySem.F.type_dict_items mt_items (pv 2)) pa_nil)) pa_nil))))))), ?_⟩
  refine ⟨_, rfl, kk, _, _, _, rfl, rfl, hK H, (show atI [V.int 1, V.int 2, V.int 3] ((0 : Nat) : Int) = some (.int 1) from atI_nat rfl), ?_⟩
  refine ⟨_, rfl, kk, _, _, _, rfl, rfl, hK H, (show atI [V.int 1, V.int 2, V.int 3] (-1) = some (.int 3) from rfl), .int k, _, 1, 3, rfl, .int k, (by show (decide (1 ≤ k) && decide (k ≤ 3)) = true; rw [decide_eq_true k1, decide_eq_true k3]; rfl), ?_⟩
  have zm := pr.1
  have ml12 := mo.len
  refine ⟨_, rfl, t, zs, ml.map fun q => (q.1, .int q.2), rfl, ht, by rw [List.length_map]; exact zm, by rw [List.map_map]; exact mo.nd, pairs_dict pr, fun d hd => ?_⟩
  have e0 : (ml.map fun q => (q.1, V.int q.2)).map (fun kv => ((Sum.inl kv.1 : Key), kv.2)) = ml.map kvI := by rw [List.map_map]; rfl
  rw [e0]
  have s1 := same_new hd (.dK (ml.map kvI))
  have hd1 : (upd H d (.dK (ml.map kvI))) d = some (.dK (ml.map kvI)) := upd_same
  generalize upd H d (.dK (ml.map kvI)) = H1 at s1 hd1 ⊢
  refine ⟨_, rfl, t, rfl, ⟨_, (ht.same s1).sq⟩, ?_⟩
  refine for_tup (xs := zs) (fun i σ H' => Same H H' ∧ H' d = some (.dK ((BB.mvs k (ml.take i) ml).map kvI)) ∧ ∃ o3 o4 o5, σ = [some (.ref t), some (.int k), some (.ref d), o3, o4, o5])
    ⟨s1, hd1, _, _, _, rfl⟩ (fun i σ H' _ hp => (ht.same hp.1).sq) (fun i z σ H2 hz hp => ?_) (fun σ H2 hp => ?_)
  · obtain ⟨s2, hd2, o3, o4, o5, rfl⟩ := hp
    have il : i < ml.length := by rw [← zm]; exact (List.getElem?_eq_some_iff.mp hz).1
    obtain ⟨p, e1, e2⟩ := pr.2 i _ (List.getElem?_eq_getElem il)
    rw [hz] at e1
    cases e1
    have mi := BB.mvs_mi mo k i (by omega)
    have nx := BB.mvs_next (ml := ml) k il
    have hp' : (ml[i]).1 ∈ BB.kys (BB.mvs k (ml.take i) ml) := mi.has _ (by rw [List.drop_eq_getElem_cons il]; exact List.mem_cons_self)
    rw [nx]
    generalize BB.mvs k (ml.take i) ml = dl at hd2 mi hp'
    generalize ml[i] = qq at e2 hp'
    obtain ⟨pl, kd⟩ := qq
    have dl12 : dl.length ≤ 12 := by rw [mi.len]; exact ml12
    refine ⟨p, _, rfl, SqT.of (s2 _ _ e2), rfl, _, _, rfl, _, _, rfl, rfl, ?_⟩
    refine ⟨_, rfl, _, rfl, rfl, _, rfl, ?_⟩
    by_cases c : kd = k
    · subst c
      rw [decide_eq_true rfl]
      refine iteT ?_
      refine ⟨_, rfl, _, _, rfl, rfl, ?_⟩
      refine while_by (fun σ H'' => H'' = H2 ∧ ∃ (x : Int) (m : Nat), σ = [some (.ref t), some (.int kd), some (.ref d), some (.int pl), some (.int kd), some (.int x)] ∧ BB.hop dl pl = BB.nxF m (BB.kys dl) x ∧ BB.cnt (BB.kys dl) x ≤ m) (fun σ _ => BB.cnt (BB.kys dl) (xo 5 σ)) ⟨rfl, pl + 1, _, rfl, hop_start dl pl⟩ (fun σ H'' hp => ?_) (fun σ H Q Q' hq h => ?_)
      · obtain ⟨rfl, x, m, rfl, eh, cm⟩ := hp
        refine ⟨_, rfl, _, rfl, d, _, rfl, DGet.k (k := Sum.inl x) hd2, _, rfl, ?_⟩
        rw [ki_mem (kvi_ki dl) x]
        by_cases c : x ∈ BB.kys dl
        · rw [decide_eq_true c]
          obtain ⟨m', e1, e3, e4⟩ := BB.nxF_in c cm
          refine iteT ⟨_, rfl, _, _, rfl, rfl, ⟨rfl, x + 1, m', rfl, eh.trans e3, e4⟩, ?_⟩
          have := BB.cnt_step _ _ c
          show BB.cnt _ (x + 1) < BB.cnt _ x
          omega
        · rw [decide_eq_false c]
          refine iteF ?_
          rw [BB.nxF_out m c] at eh
          have is1 : (valV (dl.map kvI) (Sum.inl pl)).isSome = true := by rw [ki_mem (kvi_ki dl) pl]; exact decide_eq_true hp'
          refine ⟨_, rfl, _, rfl, d, _, Sum.inl pl, rfl, hd2, rfl, is1, ?_⟩
          rw [kvi_drop]
          have cl := BB.cut_len dl pl mi.nd hp'
          refine ⟨_, rfl, _, rfl, _, rfl, d, _, rfl, DPut.k (k := Sum.inl x) upd_same (by rw [List.length_map, sizeLine_eq]; omega), ?_⟩
          rw [kvi_put _ _ _ (cut_no c)]
          have em : BB.mv1 kd dl (pl, kd) = BB.cut dl pl ++ [(x, kd)] := by
            unfold BB.mv1
            rw [if_pos rfl, eh]
          rw [em]
          exact ⟨(s2.upd_free hd _).upd_free hd _, upd_same, _, _, _, rfl⟩
      · obtain ⟨v, e, v2, e2, a', o, e3, g3, k', e4, q'⟩ := h
        exact ⟨v, e, v2, e2, a', o, e3, g3, k', e4, hq _ _ q'⟩
    · rw [decide_eq_false (fun z => c (V.int.inj z))]
      refine iteF ?_
      have em : BB.mv1 k dl (pl, kd) = dl := if_neg c
      rw [em]
      exact ⟨s2, hd2, _, _, _, rfl⟩
  · obtain ⟨s2, hd2, o3, o4, o5, rfl⟩ := hp
    rw [zm, List.take_length] at hd2
    have me := BB.mvs_end mo k
    have kl : BB.kc k ml = BB.isort (BB.mvs k ml ml) := rfl
    rw [kl] at q
    generalize BB.mvs k ml ml = dl at hd2 me q
    have lm := me.len
    refine ⟨_, rfl, .inr (.inr (.inl ⟨rfl, .inl ⟨_, hd2⟩⟩)), d, _, rfl, rfl, hd2, fun v hv => ?_⟩
    have s3 := same_new hv (Fz v (viewO d))
    refine ⟨v, d, dl, rfl, upd_same, s3 _ _ hd2, me.nd, by omega, fun bl' zs' l H3 p1 p2 s4 _ hl pr3 => ?_⟩
    have eb := BB.isort_one me.nd p1 p2
    subst eb
    refine ⟨l, zs', rfl, SqL.of hl, fun r o hr' ho => ?_⟩
    have s5 := same_new hr' (.frz o (.tup zs'))
    exact q r zs' _ (s2.trans (s3.trans (s4.trans s5))) (ft_new ho) (prs_same pr3 s5)
set_option maxRecDepth 100000 in
theorem ok_motley_carried {f : Addr} {fd : FuncData} (F : Fun K "motley_carried" "motley_carried" s_motley_carried f fd) (nb : Nb3 mg) (h_kind_carried : Has P w K mg base 3 "kind_carried" ["motley", "kind"] spKc) (c_KINDS : ∃ u, mg "KINDS" = some u ∧ RelV (.ref kk) u) (hK : ∀ H : Hp, SqT K H kk [.int 1, .int 2, .int 3]) :
    FnOk P w K mg base CX0 4 f fd ["motley"] (spOf (BB.steps3 [1, 2, 3])) := by
  have nd := sc_motley_carried.nd
  refine F.ok (k := 3) sc_motley_carried (fun vs H Q E h => ?_) (fun cdv A outer s H vs Q E hr h => ?_)
  · obtain ⟨t, zs, ml, rfl, _⟩ := h
    rfl
  obtain ⟨t, zs, ml, rfl, ht, pr, mo, q⟩ := h
  refine ⟨_, (pss_cons (ps_set (i := 1) nd rfl (Or.inl rfl) (pv 0))
(pss_cons (ps_for PassesOwn.never rfl (pi_tup (pe_const c_KINDS)) (pg_name (i := 2) nd rfl (Or.inl rfl))
(pss_one (ps_set (i := 1) nd rfl (Or.inl rfl) (pe_def h_kind_carried hr (pa_cons (pv 1) (pa_cons (pv 2) pa_nil))))))
(pss_one (ps_ret (pv 1))))), ?_⟩
  refine ⟨_, rfl, kk, rfl, ⟨_, hK H⟩, ?_⟩
  refine for_tup (xs := [.int 1, .int 2, .int 3]) (fun i σ H' => ∃ (r : Addr) (zs' : List V), FT H' r zs' ∧ Prs H' zs' (BB.steps3 ([1, 2, 3].take i) ml) ∧ Same H H' ∧ ∃ o2, σ = [some (.ref t), some (.ref r), o2])
    ⟨t, zs, ht, pr, Same.refl H, _, rfl⟩ (fun i σ H' _ hp => hK H') (fun i z σ H2 hz hp => ?_) (fun σ H2 hp => ?_)
  · obtain ⟨r, zs2, h2, pr2, s2, o2, rfl⟩ := hp
    have mo2 := BB.steps3_mo ([1, 2, 3].take i) mo
    have hi : i = 0 ∨ i = 1 ∨ i = 2 := by have := (List.getElem?_eq_some_iff.mp hz).1; simp at this; omega
    have hk : ∃ k : Int, z = .int k ∧ 1 ≤ k ∧ k ≤ 3 ∧ BB.steps3 ([1, 2, 3].take (i + 1)) ml = BB.kc k (BB.steps3 ([1, 2, 3].take i) ml) := by
      rcases hi with rfl | rfl | rfl
      · exact ⟨1, (Option.some.inj hz).symm, by decide, by decide, rfl⟩
      · exact ⟨2, (Option.some.inj hz).symm, by decide, by decide, rfl⟩
      · exact ⟨3, (Option.some.inj hz).symm, by decide, by decide, rfl⟩
    obtain ⟨k, rfl, k1, k3, ek⟩ := hk
    rw [ek]
    exact ⟨_, rfl, _, rfl, r, k, zs2, _, rfl, k1, k3, h2, pr2, mo2, fun r3 zs3 H3 s3 h3 pr3 => ⟨r3, zs3, h3, pr3, s2.trans s3, _, rfl⟩⟩
  · obtain ⟨r, zs2, h2, pr2, s2, o2, rfl⟩ := hp
    exact ⟨_, rfl, q r zs2 H2 s2 h2 pr2⟩
set_option maxRecDepth 100000 in
theorem ok_turned {f : Addr} {fd : FuncData} (F : Fun K "turned" "turned" s_turned f fd) (nb : Nb3 mg)   :
    FnOk P w K mg base CX0 1 f fd ["motley"] (spOf BB.tn) := by
  have nd := sc_turned.nd
  refine F.ok (k := 0) sc_turned (fun vs H Q E h => ?_) (fun cdv A outer s H vs Q E hr h => ?_)
  · obtain ⟨t, zs, ml, rfl, _⟩ := h
    rfl
  obtain ⟨t, zs, ml, rfl, ht, pr, mo, q⟩ := h
  refine ⟨_, (pss_one (ps_ret (pe_callTy call_tupF rfl nb.tuple boot_tuple (pa_cons (pe_comp2 (sc := defScope s_turned) (N0 := ["motley"]) (N := []) (js := []) rfl rfl rfl (by exact ⟨rfl, by decide +kernel, by decide +kernel, by decide +kernel, rfl, rfl, by decide, by decide +kernel, by decide +kernel⟩) rfl rfl
(pi_rev rfl nb.rev (pa_cons (pv 0) pa_nil))
(fun _ _ _ _ _ => by exact pts_nil)
(fun _ _ _ _ _ => by exact (pe_tup (pa_cons (pe_un un_neg (pv 0)) (pa_cons (pv 1) pa_nil))))) pa_nil)))), ?_⟩
  have zm := pr.1
  have ml12 := mo.len
  refine ⟨_, rfl, t, zs, rfl, ht.sq, fun D hD => ?_⟩
  refine comp_tups zs.length (by rw [sizeLine_eq]; omega) (fun i => [.int (-(ml.reverse.getD i (0, 0)).1), .int (ml.reverse.getD i (0, 0)).2]) (fun σ => ∃ o0 o1, σ = [o0, o1]) (fun i H' x => zs.reverse[i]? = some x) hD ⟨_, _, rfl⟩ (fun i H2 s2 => items_revS (ht.same s2).sq i) (fun i z σ' H2 hi s2 im hσ R hR => ?_) (fun H2 ys s2 hD2 hl2 hys => ?_)
  · obtain ⟨o0, o1, rfl⟩ := hσ
    obtain ⟨p, e1, e2⟩ := (prs_rev pr).2 i _ (List.getElem?_eq_getElem (show i < ml.reverse.length by rw [List.length_reverse]; omega))
    rw [im] at e1
    cases e1
    have d : ml.reverse.getD i (0, 0) = ml.reverse[i]'(by rw [List.length_reverse]; omega) := by rw [List.getD_eq_getElem?_getD, List.getElem?_eq_getElem (show i < ml.reverse.length by rw [List.length_reverse]; omega)]; rfl
    rw [d] at hR
    refine ⟨p, _, rfl, SqT.of (s2 _ _ e2), rfl, _, _, rfl, _, _, rfl, rfl, _, rfl, _, rfl, _, rfl, (by show 2 ≤ sizeLine; decide), fun p' hp' => hR _ _ _ ⟨_, _, rfl⟩ (same_new hp' _) (by rw [upd_same])⟩
  · refine ⟨D, ys, rfl, SqL.of hD2, fun r o hr' ho => ?_⟩
    have s5 := same_new hr' (.frz o (.tup ys))
    refine q r ys _ (s2.trans s5) (ft_new ho) ⟨by unfold BB.tn; rw [List.length_map, List.length_reverse]; omega, fun j b e => ?_⟩
    have jl : j < ys.length := by have := (List.getElem?_eq_some_iff.mp e).1; unfold BB.tn at this; rw [List.length_map, List.length_reverse] at this; omega
    have gy := List.getElem?_eq_getElem jl
    obtain ⟨p, e1, e2⟩ := hys j _ gy
    refine ⟨p, by rw [gy, e1], s5 _ _ ?_⟩
    rw [e2]
    have jr : j < ml.reverse.length := by rw [List.length_reverse]; omega
    unfold BB.tn at e
    rw [List.getElem?_map, List.getElem?_eq_getElem jr] at e
    cases e
    rw [List.getD_eq_getElem?_getD, List.getElem?_eq_getElem jr]; rfl
set_option maxRecDepth 100000 in
theorem ok_motley_undone {f : Addr} {fd : FuncData} (F : Fun K "motley_undone" "motley_undone" s_motley_undone f fd) (nb : Nb3 mg) (h_turned : Has P w K mg base 1 "turned" ["motley"] (spOf BB.tn)) (h_kind_carried : Has P w K mg base 3 "kind_carried" ["motley", "kind"] spKc) (c_KINDS : ∃ u, mg "KINDS" = some u ∧ RelV (.ref kk) u) (hK : ∀ H : Hp, SqT K H kk [.int 1, .int 2, .int 3]) :
    FnOk P w K mg base CX0 4 f fd ["motley"] (spOf fun ml => BB.tn (BB.steps3 [3, 2, 1] (BB.tn ml))) := by
  have nd := sc_motley_undone.nd
  refine F.ok (k := 3) sc_motley_undone (fun vs H Q E h => ?_) (fun cdv A outer s H vs Q E hr h => ?_)
  · obtain ⟨t, zs, ml, rfl, _⟩ := h
    rfl
  obtain ⟨t, zs, ml, rfl, ht, pr, mo, q⟩ := h
  refine ⟨_, (pss_cons (ps_set (i := 1) nd rfl (Or.inl rfl) (pe_def h_turned hr (pa_cons (pv 0) pa_nil)))
(pss_cons (ps_for PassesOwn.never rfl (pi_rev rfl nb.rev (pa_cons (pe_const c_KINDS) pa_nil)) (pg_name (i := 2) nd rfl (Or.inl rfl))
(pss_one (ps_set (i := 1) nd rfl (Or.inl rfl) (pe_def h_kind_carried hr (pa_cons (pv 1) (pa_cons (pv 2) pa_nil))))))
(pss_one (ps_ret (pe_def h_turned hr (pa_cons (pv 1) pa_nil)))))), ?_⟩
  refine ⟨_, rfl, t, zs, ml, rfl, ht, pr, mo, fun r0 zs0 H0 s0 h0 pr0 => ?_⟩
  have mo0 := BB.tn_mo mo
  refine ⟨kk, _, rfl, hK H0, ?_⟩
  refine for_items 3 (fun i H' x => [V.int 3, .int 2, .int 1][i]? = some x) (fun i σ H' => ∃ (r : Addr) (zs' : List V), FT H' r zs' ∧ Prs H' zs' (BB.steps3 ([3, 2, 1].take i) (BB.tn ml)) ∧ Same H H' ∧ ∃ o2, σ = [some (.ref t), some (.ref r), o2])
    ⟨r0, zs0, h0, pr0, s0, _, rfl⟩ (fun i σ H' _ hp => items_revS (xs := [.int 1, .int 2, .int 3]) (hK H') i) (fun i z σ H2 H2' hi hp s2' hz => ?_) (fun σ H2 hp => ?_)
  · obtain ⟨r, zs2, h2, pr2, s2, o2, rfl⟩ := hp
    have mo2 := BB.steps3_mo ([3, 2, 1].take i) mo0
    have hi : i = 0 ∨ i = 1 ∨ i = 2 := by omega
    have hk : ∃ k : Int, z = .int k ∧ 1 ≤ k ∧ k ≤ 3 ∧ BB.steps3 ([3, 2, 1].take (i + 1)) (BB.tn ml) = BB.kc k (BB.steps3 ([3, 2, 1].take i) (BB.tn ml)) := by
      rcases hi with rfl | rfl | rfl
      · exact ⟨3, (Option.some.inj hz).symm, by decide, by decide, rfl⟩
      · exact ⟨2, (Option.some.inj hz).symm, by decide, by decide, rfl⟩
      · exact ⟨1, (Option.some.inj hz).symm, by decide, by decide, rfl⟩
    obtain ⟨k, rfl, k1, k3, ek⟩ := hk
    rw [ek]
    exact ⟨_, rfl, _, rfl, r, k, zs2, _, rfl, k1, k3, h2.same s2', prs_same pr2 s2', mo2, fun r3 zs3 H3 s3 h3 pr3 => ⟨r3, zs3, h3, pr3, s2.trans (s2'.trans s3), _, rfl⟩⟩
  · obtain ⟨r, zs2, h2, pr2, s2, o2, rfl⟩ := hp
    exact ⟨_, rfl, r, zs2, _, rfl, h2, pr2, BB.steps3_mo _ mo0, fun r3 zs3 H3 s3 h3 pr3 => q r3 zs3 H3 (s2.trans s3) h3 pr3⟩
end
end K74
end
section
namespace K74
open PySem PySem.Spec PyProof.Rows L2
set_option maxHeartbeats 4000000
set_option maxRecDepth 100000
set_option Elab.async false
set_option linter.unusedVariables false
/-- a list of lists of ints -/
structure LoL (H : Hp) (L : Addr) (ps : List Addr) (rs : List (List Int)) : Prop where
  l : H L = some (.lst (ps.map V.ref))
  out : L ∉ ps
  nd : ps.Nodup
  len : ps.length = rs.length
  at_ : ∀ (j : Nat) (r : List Int) (p : Addr), rs[j]? = some r → ps[j]? = some p → H p = some (.lst (r.map V.int))
theorem LoL.same {H H' : Hp} {L : Addr} {ps : List Addr} {rs : List (List Int)} (t : LoL H L ps rs) (s : Same H H') : LoL H' L ps rs := ⟨s _ _ t.l, t.out, t.nd, t.len, fun j r p e1 e2 => s _ _ (t.at_ j r p e1 e2)⟩
/-- one of the lists is another -/
theorem LoL.set {H : Hp} {L : Addr} {ps : List Addr} {pre : List (List Int)} {r r' : List Int} {rs : List (List Int)} {p : Addr} (t : LoL H L ps (pre ++ r :: rs)) (e : ps[pre.length]? = some p) : LoL (upd H p (.lst (r'.map V.int))) L ps (pre ++ r' :: rs) := by
  have mp : p ∈ ps := List.mem_of_getElem? e
  refine ⟨?_, t.out, t.nd, by rw [t.len]; simp, fun j r2 p2 e1 e2 => ?_⟩
  · rw [upd_ne (fun z => t.out (by rw [z]; exact mp))]; exact t.l
  · by_cases c : j = pre.length
    · subst c
      rw [e] at e2
      cases e2
      rw [List.getElem?_append_right (Nat.le_refl _), Nat.sub_self] at e1
      cases e1
      exact upd_same
    · have np : p2 ≠ p := fun z => by
        subst z
        obtain ⟨h1, k1⟩ := List.getElem?_eq_some_iff.mp e
        obtain ⟨h2, k2⟩ := List.getElem?_eq_some_iff.mp e2
        exact c ((List.getElem_inj t.nd).mp (k2.trans k1.symm))
      rw [upd_ne np]
      refine t.at_ j r2 p2 ?_ e2
      by_cases d : j < pre.length
      · rw [List.getElem?_append_left d] at e1 ⊢; exact e1
      · rw [List.getElem?_append_right (by omega)] at e1 ⊢
        obtain ⟨k, hk⟩ : ∃ k, j - pre.length = k + 1 := ⟨j - pre.length - 1, by omega⟩
        rw [hk] at e1 ⊢
        exact e1
/-- one more -/
theorem LoL.more {H : Hp} {L q : Addr} {ps : List Addr} {rs : List (List Int)} {r : List Int} (t : LoL H L ps rs) (hq : H q = some (.lst (r.map V.int))) (n1 : q ≠ L) (n2 : q ∉ ps) : LoL (upd H L (.lst (ps.map V.ref ++ [.ref q]))) L (ps ++ [q]) (rs ++ [r]) := by
  refine ⟨by rw [upd_same, List.map_append]; rfl, fun z => ?_, ?_, by rw [List.length_append, List.length_append, t.len]; rfl, fun j r2 p2 e1 e2 => ?_⟩
  · rcases List.mem_append.mp z with z | z
    · exact t.out z
    · exact n1 (List.mem_singleton.mp z).symm
  · refine List.nodup_append.mpr ⟨t.nd, List.pairwise_singleton _ _, fun a ha b hb => ?_⟩
    rw [List.mem_singleton.mp hb]
    exact fun z => n2 (by rw [← z]; exact ha)
  · by_cases c : j < rs.length
    · rw [List.getElem?_append_left c] at e1
      rw [List.getElem?_append_left (by rw [t.len]; exact c)] at e2
      rw [upd_ne (fun z => t.out (by rw [← z]; exact List.mem_of_getElem? e2))]
      exact t.at_ j r2 p2 e1 e2
    · rw [List.getElem?_append_right (by omega)] at e1
      rw [List.getElem?_append_right (by rw [t.len]; omega), t.len] at e2
      obtain ⟨h1, k1⟩ := List.getElem?_eq_some_iff.mp e1
      obtain ⟨h2, k2⟩ := List.getElem?_eq_some_iff.mp e2
      simp only [List.length_singleton] at h1 h2
      have j0 : j - rs.length = 0 := by omega
      simp only [j0, List.getElem_cons_zero] at k1 k2
      rw [← k1, ← k2, upd_ne n1]
      exact hq
theorem ixN_nat {n j : Nat} (h : j < n) : ixN n (j : Int) = some j := by
  unfold ixN
  rw [if_pos (by omega), if_pos (by omega), Int.toNat_natCast]
def spPutIn : Sp := fun vs H Q _ => ∃ (L : Addr) (x : Int) (ps : List Addr) (rs : List (List Int)), vs = [.ref L, .int x] ∧ LoL H L ps rs ∧ BB.Tab 100 rs ∧
  ∀ (H' : Hp) (ps' : List Addr), LoL H' L ps' (BB.put rs x) → (∀ p ∈ ps', p ∈ ps ∨ H p = none) → (∀ c o, c ≠ L → c ∉ ps → H c = some o → H' c = some o) → Q .non H'
section
variable {P : Program} {w : World} {K : PySem.W.Frag} {mg : Str → Option Value} {base : Heap}
set_option maxRecDepth 100000 in
theorem ok_put_in {f : Addr} {fd : FuncData} (F : Fun K "put_in" "put_in" s_put_in f fd) (nb : NbE mg)   :
    FnOk P w K mg base CX0 1 f fd ["lists", "kind"] spPutIn := by
  have nd := sc_put_in.nd
  refine F.ok (k := 0) sc_put_in (fun vs H Q E h => ?_) (fun cdv A outer s H vs Q E hr h => ?_)
  · obtain ⟨L, x, ps, rs, rfl, _⟩ := h
    rfl
  obtain ⟨L, x, ps, rs, rfl, t, tb, q⟩ := h
  refine ⟨_, (pss_cons (ps_set (i := 2) nd rfl (Or.inr rfl) (pv 1))
(pss_cons (ps_for PassesOwn.never rfl (pi_list (pv 0)) (pg_name (i := 3) nd rfl (Or.inl rfl))
(pss_cons (ps_comp2 (ii := 4) nd rfl (Or.inl rfl) (sc := defScope s_put_in) (N0 := ["lists", "kind", "number", "numbers", "greater", "put_out"]) (N := ["number"]) (js := [2]) rfl rfl rfl (by exact ⟨rfl, by decide +kernel, by decide +kernel, by decide +kernel, rfl, rfl, by decide, by decide +kernel, by decide +kernel⟩) rfl rfl
(pi_enum rfl nb.enum (pa_cons (pv 3) pa_nil))
(fun _ _ _ _ _ => by exact (pts_one (pt_cmpR op_gt (pv 1) (pv 2) (nomark _))))
(fun _ _ _ _ _ => by exact (pv 0)))
(pss_cons (ps_if (pt_not (pt_truth (pv 4) (fun _ => rfl)))
(pss_cons (ps_expr (pe_bm PySem.F.plainAttrs_list PySem.F.slot_list_append PySem.F.type_list_append mt_append (pv 3) (pa_cons (pv 2) pa_nil)))
(pss_one ps_retN))
pss_nil)
(pss_cons (ps_set (i := 5) nd rfl (Or.inl rfl) (pe_ix ix_list (pv 3) (pe_ix ix_list (pv 4) pe_int (fun _ _ => rfl)) (fun _ _ => rfl)))
(pss_cons (ps_asg (pv 2) (pg_sub (pv 3) (pe_ix ix_list (pv 4) pe_int (fun _ _ => rfl)) set_list))
(pss_one (ps_set (i := 2) nd rfl (Or.inr rfl) (pv 5))))))))
(pss_one (ps_expr (pe_bm PySem.F.plainAttrs_list PySem.F.slot_list_append PySem.F.type_list_append mt_append (pv 0) (pa_cons (pe_lst (pa_cons (pv 2) pa_nil)) pa_nil)))))), ?_⟩
  refine ⟨_, rfl, ?_⟩
  refine ⟨_, rfl, L, rfl, ⟨_, SqL.of t.l⟩, ?_⟩
  have inv0 : BB.put rs x = [] ++ BB.put (rs.drop 0) x := rfl
  refine for_list (xs := ps.map V.ref) (fun i σ H' => ∃ (pre : List (List Int)) (y : Int), pre.length = i ∧ BB.put rs x = pre ++ BB.put (rs.drop i) y ∧ LoL H' L ps (pre ++ rs.drop i) ∧ (∀ c o, c ≠ L → c ∉ ps → H c = some o → H' c = some o) ∧ ∃ o3 o4 o5, σ = [some (.ref L), some (.int x), some (.int y), o3, o4, o5])
    ⟨[], x, rfl, inv0, t, fun c o _ _ e => e, _, _, _, rfl⟩ (fun i σ H' _ hp => SqL.of hp.choose_spec.choose_spec.2.2.1.l) (fun i z σ H1 hz hp => ?_) (fun σ H1 hp => ?_)
  · obtain ⟨pre, y, pl, ep, t1, fr, o3, o4, o5, rfl⟩ := hp
    rw [List.getElem?_map] at hz
    obtain ⟨p, hpi, ez⟩ := Option.map_eq_some_iff.mp hz
    subst ez
    have il : i < rs.length := by rw [← t.len]; exact (List.getElem?_eq_some_iff.mp hpi).1
    have ed : rs.drop i = rs[i] :: rs.drop (i + 1) := List.drop_eq_getElem_cons il
    have mr : rs[i] ∈ rs := List.getElem_mem il
    have ur := tb.up _ mr
    have lr := tb.len _ mr
    rw [ed] at ep t1
    generalize rs[i] = r at ep t1 ur lr ed
    have e9 : ps[pre.length]? = some p := by rw [pl]; exact hpi
    have hp1 : H1 p = some (.lst (r.map V.int)) := t1.at_ pre.length r p (by rw [List.getElem?_append_right (Nat.le_refl _), Nat.sub_self]; rfl) e9
    refine ⟨_, rfl, p, _, rfl, SqL.of hp1, fun D hD => ?_⟩
    refine comp_sel r.length (by rw [sizeLine_eq]; omega) (fun j => decide (y < r.getD j 0)) (fun j => .int (j : Int)) (fun σ => ∃ o0 o1, σ = [o0, o1, some (.int y)]) (fun j H' v => ∃ q, v = .ref q ∧ H' q = some (.tup [.int (j : Int), .int (r.getD j 0)])) hD ⟨_, _, rfl⟩ (fun j H2 s2 => ?_) (fun j v σ' H2 hj s2 im hσ R S hR hS => ?_) (fun H2 s2 hD2 => ?_)
    · have := items_enum (K := K) hp1 j H2 s2
      rw [List.length_map] at this
      refine ⟨fun hj => ⟨(this.1 hj).1, fun v H3 yl => ?_⟩, this.2⟩
      obtain ⟨s3, q, u, e1, e2, e3⟩ := (this.1 hj).2 v H3 yl
      rw [List.getElem?_map, List.getElem?_eq_getElem hj] at e3
      have e4 : u = .int (r.getD j 0) := by rw [List.getD_eq_getElem?_getD, List.getElem?_eq_getElem hj]; exact (Option.some.inj e3).symm
      exact ⟨s3, q, e1, by rw [e2, e4]⟩
    · obtain ⟨o0, o1, rfl⟩ := hσ
      obtain ⟨qq, rfl, hq⟩ := im
      refine ⟨qq, _, rfl, SqT.of hq, rfl, _, _, rfl, _, _, rfl, rfl, _, rfl, _, rfl, _, _, rfl, rfl, _, rfl, ?_⟩
      by_cases c : y < r.getD j 0
      · rw [decide_eq_true c]
        exact iteT ⟨_, rfl, hR (decide_eq_true c) _ _ _ ⟨_, _, rfl⟩ (Same.refl _) rfl⟩
      · rw [decide_eq_false c]
        exact iteF (hS (decide_eq_false c) _ _ ⟨_, _, rfl⟩ (Same.refl _))
    have hD3 : H2 D = some (.lst ((BB.hits r y).map fun (j : Nat) => V.int (j : Int))) := hD2
    have hp2 := s2 _ _ hp1
    have t2 := t1.same s2
    have mp : p ∈ ps := List.mem_of_getElem? hpi
    have npD : D ≠ p := fun z => by rw [z, hp1] at hD; cases hD
    have fr2 : ∀ (o' : HO) c o, c ≠ L → c ∉ ps → H c = some o → (upd H2 p o') c = some o := fun o' c o n1 n2 e => by
      rw [upd_ne (fun z => n2 (by rw [z]; exact mp))]
      exact s2 _ _ (fr c o n1 n2 e)
    rcases BB.hits_low (x := y) ur with ⟨h1, h2⟩ | ⟨tl, h1, h2⟩
    · rw [h1] at hD3
      refine ⟨_, rfl, false, .inl ⟨_, SqL.of hD3, rfl⟩, iteT ?_⟩
      refine ⟨_, rfl, .inl ⟨rfl, _, SqL.of hp2⟩, _, rfl, p, _, _, rfl, rfl, hp2, (by rw [List.length_map, sizeLine_eq]; omega), ?_⟩
      have pe : BB.put rs x = pre ++ (r ++ [y]) :: rs.drop (i + 1) := by
        rw [ep]
        show pre ++ (if BB.low r y = r.length then _ else _) = _
        rw [if_pos h2]
      refine q _ ps ?_ (fun c hc => .inl hc) (fr2 _)
      rw [pe]
      have := t2.set (r' := r ++ [y]) e9
      rw [List.map_append] at this
      exact this
    · rw [h1] at hD3
      refine ⟨_, rfl, true, .inl ⟨_, SqL.of hD3, rfl⟩, iteF ?_⟩
      have a0 : ∀ zs : List V, atI (V.int (BB.low r y : Int) :: zs) ((0 : Nat) : Int) = some (.int (BB.low r y : Int)) := fun zs => atI_nat rfl
      refine ⟨_, rfl, _, rfl, D, _, _, _, rfl, rfl, SqL.of hD3, a0 _, p, _, _, _, rfl, rfl, SqL.of hp2, at_int h2, ?_⟩
      refine ⟨_, rfl, _, rfl, _, rfl, D, _, _, _, rfl, rfl, SqL.of hD3, a0 _, p, _, _, BB.low r y, rfl, rfl, hp2, ixN_nat (by rw [List.length_map]; exact h2), ?_⟩
      refine ⟨_, rfl, ?_⟩
      have pe : BB.put rs x = (pre ++ [r.take (BB.low r y) ++ [y] ++ r.drop (BB.low r y + 1)]) ++ BB.put (rs.drop (i + 1)) (r.getD (BB.low r y) 0) := by
        rw [ep]
        show pre ++ (if BB.low r y = r.length then _ else _) = _
        rw [if_neg (by omega)]
        exact (List.append_assoc pre [_] _).symm
      refine ⟨_, _, by rw [List.length_append, List.length_singleton, pl], pe, ?_, fr2 _, _, _, _, rfl⟩
      have := t2.set (r' := r.take (BB.low r y) ++ [y] ++ r.drop (BB.low r y + 1)) e9
      rw [← BB.set_low h2, List.map_set] at this
      rw [← BB.set_low h2, List.append_assoc]
      exact this
  · obtain ⟨pre, y, pl, ep, t1, fr, o3, o4, o5, rfl⟩ := hp
    rw [List.length_map, t.len, List.drop_length] at ep t1
    rw [List.append_nil] at t1
    refine ⟨_, rfl, .inl ⟨rfl, _, SqL.of t1.l⟩, _, rfl, (by show 1 ≤ sizeLine; decide), fun b hb => ?_⟩
    have s3 := same_new hb (.lst [.int y])
    have t3 := t1.same s3
    have nL : b ≠ L := fun z => by rw [z, t1.l] at hb; cases hb
    have lp : ps.length ≤ 100 := by rw [t.len]; exact tb.few
    refine ⟨L, _, _, rfl, rfl, t3.l, (by rw [List.length_map, sizeLine_eq]; omega), ?_⟩
    have hb0 : ∀ (h : H b ≠ none), b ∉ ps → False := fun h n => by
      cases e : H b with
      | none => exact h e
      | some o => rw [fr b o nL n e] at hb; cases hb
    have nps : b ∉ ps := fun z => by
      obtain ⟨j, hj, e⟩ := List.getElem_of_mem z
      have jl : j < pre.length := by rw [← t1.len]; exact hj
      have := t1.at_ j _ b (List.getElem?_eq_getElem jl) (by rw [List.getElem?_eq_getElem hj, e])
      rw [this] at hb; cases hb
    refine q _ (ps ++ [b]) ?_ (fun c hc => ?_) fun c o n1 n2 e => ?_
    · rw [ep]
      exact t3.more (r := [y]) upd_same nL nps
    · rcases List.mem_append.mp hc with h | h
      · exact .inl h
      · rw [List.mem_singleton.mp h]
        refine .inr ?_
        cases e : H b with
        | none => rfl
        | some o => exact (hb0 (by rw [e]; intro z; cases z) nps).elim
    · rw [upd_ne n1]
      exact s3 _ _ (fr c o n1 n2 e)
end
end K74
end
section
namespace K74
open PySem PySem.Spec PyProof.Rows L2
set_option maxHeartbeats 4000000
set_option maxRecDepth 100000
set_option Elab.async false
set_option linter.unusedVariables false
def spStay : Sp := fun vs H Q _ => ∃ (t : Addr) (zs : List V) (ml : List (Int × Int)), vs = [.ref t] ∧ FT H t zs ∧ Prs H zs ml ∧ zs.length ≤ 12 ∧
  ∀ (l : Addr) (ys : List V) (H' : Hp), Same H H' → H l = none → H' l = some (.lst ys) → Rws H' ys (BB.puts (ml.map (·.2))) → Q (.ref l) H'
theorem same_free {H H' : Hp} {a : Addr} (s : Same H H') (h : H' a = none) : H a = none := by
  cases e : H a with
  | none => rfl
  | some o => rw [s _ _ e] at h; cases h
section
variable {P : Program} {w : World} {K : PySem.W.Frag} {mg : Str → Option Value} {base : Heap}
set_option maxRecDepth 100000 in
theorem ok_staying {f : Addr} {fd : FuncData} (F : Fun K "staying" "staying" s_staying f fd) (nb : NbE mg) (h_put_in : Has P w K mg base 1 "put_in" ["lists", "kind"] spPutIn)  :
    FnOk P w K mg base CX0 2 f fd ["motley"] spStay := by
  have nd := sc_staying.nd
  refine F.ok (k := 1) sc_staying (fun vs H Q E h => ?_) (fun cdv A outer s H vs Q E hr h => ?_)
  · obtain ⟨t, zs, ml, rfl, _⟩ := h
    rfl
  obtain ⟨t, zs, ml, rfl, ht, pr, zl, q⟩ := h
  refine ⟨_, (pss_cons (ps_set (i := 1) nd rfl (Or.inl rfl) (pe_lst pa_nil))
(pss_cons (ps_for PassesOwn.never rfl (pi_tup (pv 0)) (pg_tup rfl (pgs_cons (pg_name (i := 2) nd rfl (Or.inl rfl)) (pgs_cons (pg_name (i := 3) nd rfl (Or.inl rfl)) pgs_nil)))
(pss_one (ps_expr (pe_def h_put_in hr (pa_cons (pv 1) (pa_cons (pv 3) pa_nil))))))
(pss_one (ps_ret (pe_comp1 (sc := defScope s_staying) (N0 := ["motley", "lists", "place", "kind"]) (N := []) (js := []) rfl rfl rfl (by exact ⟨rfl, by decide +kernel, by decide +kernel, by decide +kernel, rfl, rfl, by decide, by decide +kernel, by decide +kernel⟩) rfl
(pi_list (pv 1))
(fun _ _ _ _ _ => by exact pts_nil)
(fun _ _ _ _ _ => by exact (pe_callTy (call_tupK K rfl) rfl nb.tuple boot_tuple (pa_cons (pv 0) pa_nil)))))))), ?_⟩
  refine ⟨(by show 0 ≤ sizeLine; decide), fun L hL => ?_⟩
  have s1 := same_new hL (.lst [])
  have hL1 : (upd H L (.lst [])) L = some (.lst []) := upd_same
  generalize upd H L (.lst []) = H1 at s1 hL1 ⊢
  have zm := pr.1
  have km : (ml.map (·.2)).length = ml.length := List.length_map ..
  refine ⟨_, rfl, t, rfl, ⟨_, (ht.same s1).sq⟩, ?_⟩
  refine for_tup (xs := zs) (fun i σ H' => ∃ ps, LoL H' L ps (BB.puts ((ml.map (·.2)).take i)) ∧ (∀ p ∈ ps, H p = none) ∧ Same H H' ∧ ∃ o2 o3, σ = [some (.ref t), some (.ref L), o2, o3])
    ⟨[], ⟨hL1, List.not_mem_nil, List.nodup_nil, rfl, fun j r p e1 e2 => by cases e2⟩, fun p hp => absurd hp List.not_mem_nil, s1, _, _, rfl⟩ (fun i σ H' _ hp => (ht.same hp.choose_spec.2.2.1).sq) (fun i z σ H2 hz hp => ?_) (fun σ H2 hp => ?_)
  · obtain ⟨ps, t2, fp, s2, o2, o3, rfl⟩ := hp
    have il : i < ml.length := by rw [← zm]; exact (List.getElem?_eq_some_iff.mp hz).1
    obtain ⟨p, e1, e2, _⟩ := prs_at pr il
    rw [hz] at e1
    cases e1
    have tab := BB.puts_tab i (ml.map (·.2))
    have tl : ((ml.map (·.2)).take i).length ≤ 100 := by rw [List.length_take]; omega
    refine ⟨p, _, rfl, SqT.of (s2 _ _ e2), rfl, _, _, rfl, _, _, rfl, rfl, ?_⟩
    refine ⟨_, rfl, _, rfl, L, _, ps, _, rfl, t2, tab.mono tl, fun H3 ps' t3 fp3 fr3 => ?_⟩
    have es : BB.puts ((ml.map (·.2)).take (i + 1)) = BB.put (BB.puts ((ml.map (·.2)).take i)) (ml.getD i (0, 0)).2 := by
      rw [List.take_add_one, List.getElem?_map, List.getElem?_eq_getElem il]
      show BB.puts (_ ++ [(ml[i]).2]) = _
      rw [BB.puts_snoc, List.getD_eq_getElem?_getD, List.getElem?_eq_getElem il]; rfl
    refine ⟨ps', by rw [es]; exact t3, fun q hq => ?_, fun c o e => ?_, _, _, rfl⟩
    · rcases fp3 q hq with h | h
      · exact fp q h
      · exact same_free s2 h
    · exact fr3 c o (fun z => by rw [z, hL] at e; cases e) (fun z => by rw [fp c z] at e; cases e) (s2 _ _ e)
  · obtain ⟨ps, t2, fp, s2, o2, o3, rfl⟩ := hp
    rw [zm, ← km, List.take_length] at t2
    have tab : BB.Tab 100 (BB.puts (ml.map (·.2))) := by
      have := BB.puts_tab ml.length (ml.map (·.2))
      rw [← km, List.take_length] at this
      exact this.mono (by omega)
    generalize BB.puts (ml.map (·.2)) = rs at t2 tab q
    have few := tab.few
    have pl := t2.len
    refine ⟨_, rfl, L, rfl, ⟨_, SqL.of t2.l⟩, fun D hD => ?_⟩
    refine comp_tups ps.length (by rw [sizeLine_eq]; omega) (fun i => (rs.getD i []).map V.int) (fun σ => ∃ o0, σ = [o0]) (fun i H' x => ∃ p, x = .ref p ∧ ps[i]? = some p) hD ⟨_, rfl⟩ (fun i H3 s3 => ?_) (fun i z σ' H3 hi s3 im hσ R hR => ?_) (fun H3 ys s3 hD3 hl3 hys => ?_)
    · have := items_lst (K := K) t2.l i H3 s3
      rw [List.length_map] at this
      refine ⟨fun hi => ⟨(this.1 hi).1, fun v H4 yl => ?_⟩, this.2⟩
      obtain ⟨s4, e⟩ := (this.1 hi).2 v H4 yl
      rw [List.getElem?_map] at e
      obtain ⟨p, e1, e2⟩ := Option.map_eq_some_iff.mp e
      exact ⟨s4, p, e2.symm, e1⟩
    · obtain ⟨o0, rfl⟩ := hσ
      obtain ⟨p, rfl, e⟩ := im
      have ir : i < rs.length := by omega
      have er : rs[i]? = some (rs.getD i []) := by rw [List.getD_eq_getElem?_getD, List.getElem?_eq_getElem ir]; rfl
      refine ⟨_, rfl, p, _, rfl, .inl ⟨SqL.of (s3 _ _ (t2.at_ i _ p er e)), fun l hl => hR _ _ _ ⟨_, rfl⟩ (same_new hl _) upd_same⟩⟩
    · refine q D ys H3 (s2.trans s3) (same_free s2 hD) hD3 ⟨by omega, fun j r e => ?_⟩
      have jl : j < ys.length := by rw [hl3, pl]; exact (List.getElem?_eq_some_iff.mp e).1
      have gy := List.getElem?_eq_getElem jl
      obtain ⟨p, e1, e2⟩ := hys j _ gy
      refine ⟨p, by rw [gy, e1], ?_⟩
      rw [e2, List.getD_eq_getElem?_getD, e]; rfl
end
end K74
end
section
namespace K74
open PySem PySem.Spec PyProof.Rows L2
set_option maxHeartbeats 4000000
set_option maxRecDepth 100000
set_option Elab.async false
set_option linter.unusedVariables false
theorem rise_one (a : Int) : riseB [a] = true := rfl
theorem rise_two (a b : Int) (r : List Int) : riseB (a :: b :: r) = (decide (a < b) && riseB (b :: r)) := by
  unfold riseB
  have e : (a :: b :: r).length - 1 = (b :: r).length - 1 + 1 := by simp
  rw [e, List.range_succ_eq_map, List.all_cons, List.all_map]
  rfl
theorem rise_up : ∀ {ns : List Int}, ns.Pairwise (· < ·) → riseB ns = true
  | [], _ => rfl
  | [a], _ => rise_one a
  | a :: b :: r, h => by
    obtain ⟨h1, h2⟩ := List.pairwise_cons.mp h
    rw [rise_two, rise_up h2, Bool.and_true]
    exact decide_eq_true (h1 b (List.mem_cons_self ..))

/-- a row, within the bounds -/
def spIsRow : Sp := fun vs H Q _ => ∃ (a : Addr) (ns : List Int), vs = [.ref a] ∧ H a = some (.tup (ns.map V.int)) ∧ ns.length ≤ 12 ∧ (∀ p ∈ ns, -1000000000 ≤ p ∧ p ≤ 1000000000) ∧ ns.Pairwise (· < ·) ∧ ∀ H', Same H H' → Q (.bl true) H'
def spBall : Sp := fun vs H Q _ => ∃ (a : Addr) (p k : Int), vs = [.ref a] ∧ H a = some (.tup [.int p, .int k]) ∧ 1 ≤ k ∧ k ≤ 3 ∧ Q (.bl true) H
/-- a motley row, within the bounds -/
def spMt : Sp := fun vs H Q _ => ∃ (t : Addr) (zs : List V) (ml : BB.Ps), vs = [.ref t] ∧ FT H t zs ∧ Prs H zs ml ∧ BB.Mo ml ∧ BB.K3 ml ∧ (∀ p ∈ BB.kys ml, -1000000000 ≤ p ∧ p ≤ 1000000000) ∧ ∀ H', Same H H' → Q (.bl true) H'
theorem all_yes (n : Nat) : ((List.range n).map fun _ => V.bl true) = (List.replicate n true).map V.bl ∧ (List.replicate n true).all id = true := by
  refine ⟨?_, ?_⟩
  · rw [List.map_replicate, List.map_const', List.length_range]
  · exact List.all_eq_true.mpr fun x hx => List.eq_of_mem_replicate hx
section
variable {P : Program} {w : World} {K : PySem.W.Frag} {mg : Str → Option Value} {base : Heap} {kk : Addr}
set_option maxRecDepth 100000 in
theorem ok_is_row {f : Addr} {fd : FuncData} (F : Fun K "is_row" "is_row" s_is_row f fd) (nb : Nb mg) (h_is_number : Has P w K mg base 1 "is_number" ["thing", "least", "greatest"] spNum) (h_is_rising : Has P w K mg base 1 "is_rising" ["numbers"] spRise) (c_MOST_BALLS : ∃ u, mg "MOST_BALLS" = some u ∧ RelV (.int 12) u) (c_FARTHEST : ∃ u, mg "FARTHEST" = some u ∧ RelV (.int 1000000000) u) :
    FnOk P w K mg base CX0 2 f fd ["thing"] spIsRow := by
  have nd := sc_is_row.nd
  refine F.ok (k := 1) sc_is_row (fun vs H Q E h => ?_) (fun cdv A outer s H vs Q E hr h => ?_)
  · obtain ⟨a, ns, rfl, _⟩ := h
    rfl
  obtain ⟨a, ns, rfl, ha, ln, bd, up, q⟩ := h
  refine ⟨_, (pss_cons (ps_if (PW.pt (pw_or (pt_not (pt_truth (pe_callB call_isi rfl nb.isi boot_isinstance (pa_cons (pv 0) (pa_cons (pe_ty nb.tuple boot_tuple) pa_nil))) (fun _ => rfl))) (pw_or1 (pt_cmpR op_gt (pe_callB call_len_seq rfl nb.len PySem.boot_len (pa_cons (pv 0) pa_nil)) (pe_const c_MOST_BALLS) (nomark _)))))
(pss_one (ps_ret pe_bl))
pss_nil)
(pss_cons (ps_if (pt_not (pt_truth (pe_callB (call_allB rfl) rfl nb.all boot_all (pa_cons (pe_comp1 (sc := defScope s_is_row) (N0 := ["thing"]) (N := []) (js := []) rfl rfl rfl (by exact ⟨rfl, by decide +kernel, by decide +kernel, by decide +kernel, rfl, rfl, by decide, by decide +kernel, by decide +kernel⟩) rfl
(pi_tup (pv 0))
(fun _ _ _ _ _ => by exact pts_nil)
(fun _ _ _ _ _ => by exact (pe_def h_is_number hr (pa_cons (pv 0) (pa_cons (pe_un un_neg (pe_const c_FARTHEST)) (pa_cons (pe_const c_FARTHEST) pa_nil)))))) pa_nil)) (fun _ => rfl)))
(pss_one (ps_ret pe_bl))
pss_nil)
(pss_one (ps_ret (pe_def h_is_rising hr (pa_cons (pv 0) pa_nil)))))), ?_⟩
  refine ⟨_, rfl, _, _, _, rfl, .tup ha, .inr (.inr (.inl rfl)), _, rfl, ?_⟩
  have hl : (ns.map V.int).length = ns.length := List.length_map ..
  refine iteF ⟨_, rfl, a, _, rfl, .inr (SqT.of ha), _, _, rfl, rfl, _, rfl, ?_⟩
  rw [decide_eq_false (by omega)]
  refine iteF ⟨_, rfl, a, rfl, ⟨_, SqT.of ha⟩, fun D hD => ?_⟩
  refine comp_go (ns.map V.int).length (by rw [hl, sizeLine_eq]; omega) (fun i => .bl true) (fun σ => ∃ o1, σ = [o1]) _ hD (by exact ⟨_, rfl⟩) (items_tup ha) (fun i x σ' H2 hi s2 im hσ R hR => ?_) (fun H' s' hD' => ?_)
  · obtain ⟨o1, rfl⟩ := hσ
    obtain ⟨z, hz, rfl⟩ := List.mem_map.mp (List.mem_of_getElem? im)
    have zb := bd z hz
    refine ⟨_, rfl, _, rfl, .int z, _, -1000000000, 1000000000, rfl, .int z, hR _ _ _ ⟨_, rfl⟩ (Same.refl _) ?_⟩
    show V.bl (decide (-1000000000 ≤ z) && decide (z ≤ 1000000000)) = .bl true
    rw [decide_eq_true zb.1, decide_eq_true zb.2]
    rfl
  · obtain ⟨e1, e2⟩ := all_yes (ns.map V.int).length
    rw [e1] at hD'
    refine ⟨D, _, rfl, SqL.of hD', _, rfl, ?_⟩
    rw [e2]
    refine iteF ⟨_, rfl, a, ns, rfl, s' _ _ ha, by omega, fun H3 s3 => ?_⟩
    rw [rise_up up]
    exact q H3 (s'.trans s3)
set_option maxRecDepth 100000 in
theorem ok_is_ball {f : Addr} {fd : FuncData} (F : Fun K "is_ball" "is_ball" s_is_ball f fd) (nb : Nb mg) (h_is_number : Has P w K mg base 1 "is_number" ["thing", "least", "greatest"] spNum) (c_KINDS : ∃ u, mg "KINDS" = some u ∧ RelV (.ref kk) u) (hK : ∀ H : Hp, SqT K H kk [.int 1, .int 2, .int 3]) :
    FnOk P w K mg base CX0 2 f fd ["thing"] spBall := by
  have nd := sc_is_ball.nd
  refine F.ok (k := 1) sc_is_ball (fun vs H Q E h => ?_) (fun cdv A outer s H vs Q E hr h => ?_)
  · obtain ⟨a, p, k, rfl, _⟩ := h
    rfl
  obtain ⟨a, p, k, rfl, ha, k1, k3, q⟩ := h
  refine ⟨_, (pss_one (ps_ret (pe_and (pe_callB call_isi rfl nb.isi boot_isinstance (pa_cons (pv 0) (pa_cons (pe_ty nb.tuple boot_tuple) pa_nil))) (pe_and (pe_cmpR op_eq (pe_callB call_len_seq rfl nb.len PySem.boot_len (pa_cons (pv 0) pa_nil)) pe_int (nomark _)) (pe_one (pe_def h_is_number hr (pa_cons (pe_ix ix_tup (pv 0) pe_int (fun _ _ => rfl)) (pa_cons (pe_ix ix_tup (pe_const c_KINDS) pe_int (fun _ _ => rfl)) (pa_cons (pe_ix ix_tup (pe_const c_KINDS) (pe_un un_neg pe_int) (fun _ _ => rfl)) pa_nil))))))))), ?_⟩
  refine ⟨_, rfl, _, _, _, rfl, .tup ha, .inr (.inr (.inl rfl)), _, rfl, iteT ?_⟩
  refine ⟨_, rfl, a, _, rfl, .inr (SqT.of ha), rfl, _, rfl, iteT ?_⟩
  refine ⟨_, rfl, a, _, _, _, rfl, rfl, SqT.of ha, (show atI [V.int p, V.int k] ((1 : Nat) : Int) = some (.int k) from atI_nat rfl), ?_⟩
  refine ⟨kk, _, _, _, rfl, rfl, hK H, (show atI [V.int 1, V.int 2, V.int 3] ((0 : Nat) : Int) = some (.int 1) from atI_nat rfl), ?_⟩
  refine ⟨_, rfl, kk, _, _, _, rfl, rfl, hK H, (show atI [V.int 1, V.int 2, V.int 3] (-1) = some (.int 3) from rfl), .int k, _, 1, 3, rfl, .int k, ?_⟩
  have e : numB 1 3 (.int k) = true := by
    show (decide (1 ≤ k) && decide (k ≤ 3)) = true
    rw [decide_eq_true k1, decide_eq_true k3]
    rfl
  rw [e]
  exact q
set_option maxRecDepth 100000 in
theorem ok_is_motley {f : Addr} {fd : FuncData} (F : Fun K "is_motley" "is_motley" s_is_motley f fd) (nb : Nb mg) (h_is_ball : Has P w K mg base 2 "is_ball" ["thing"] spBall) (h_is_row : Has P w K mg base 2 "is_row" ["thing"] spIsRow)  :
    FnOk P w K mg base CX0 3 f fd ["thing"] spMt := by
  have nd := sc_is_motley.nd
  refine F.ok (k := 2) sc_is_motley (fun vs H Q E h => ?_) (fun cdv A outer s H vs Q E hr h => ?_)
  · obtain ⟨t, zs, ml, rfl, _⟩ := h
    rfl
  obtain ⟨t, zs, ml, rfl, ht, pr, mo, k3, bd, q⟩ := h
  refine ⟨_, (pss_cons (ps_if (PW.pt (pw_or (pt_not (pt_truth (pe_callB call_isiF rfl nb.isi boot_isinstance (pa_cons (pv 0) (pa_cons (pe_ty nb.tuple boot_tuple) pa_nil))) (fun _ => rfl))) (pw_or1 (pt_not (pt_truth (pe_callB (call_allB rfl) rfl nb.all boot_all (pa_cons (pe_comp1 (sc := defScope s_is_motley) (N0 := ["thing"]) (N := []) (js := []) rfl rfl rfl (by exact ⟨rfl, by decide +kernel, by decide +kernel, by decide +kernel, rfl, rfl, by decide, by decide +kernel, by decide +kernel⟩) rfl
(pi_tup (pv 0))
(fun _ _ _ _ _ => by exact pts_nil)
(fun _ _ _ _ _ => by exact (pe_def h_is_ball hr (pa_cons (pv 0) pa_nil)))) pa_nil)) (fun _ => rfl))))))
(pss_one (ps_ret pe_bl))
pss_nil)
(pss_one (ps_ret (pe_def h_is_row hr (pa_cons (pe_callTy call_tuple_of rfl nb.tuple boot_tuple (pa_cons (pe_comp2 (sc := defScope s_is_motley) (N0 := ["thing"]) (N := []) (js := []) rfl rfl rfl (by exact ⟨rfl, by decide +kernel, by decide +kernel, by decide +kernel, rfl, rfl, by decide, by decide +kernel, by decide +kernel⟩) rfl rfl
(pi_tup (pv 0))
(fun _ _ _ _ _ => by exact pts_nil)
(fun _ _ _ _ _ => by exact (pv 0))) pa_nil)) pa_nil))))), ?_⟩
  have zm := pr.1
  have ml12 := mo.len
  have knf : KnF H (.ref t) "tuple" := by
    obtain ⟨o, e, _⟩ := ht
    exact .inr ⟨rfl, t, o, zs, rfl, e⟩
  refine ⟨_, rfl, _, _, _, rfl, knf, .inr (.inr (.inl rfl)), _, rfl, ?_⟩
  refine iteF ⟨_, rfl, t, rfl, ⟨_, ht.sq⟩, fun D hD => ?_⟩
  refine comp_go zs.length (by rw [sizeLine_eq]; omega) (fun i => .bl true) (fun σ => ∃ o1, σ = [o1]) _ hD (by exact ⟨_, rfl⟩) (items_tupS fun H s => (ht.same s).sq) (fun i x σ' H2 hi s2 im hσ R hR => ?_) (fun H' s' hD' => ?_)
  · obtain ⟨o1, rfl⟩ := hσ
    obtain ⟨p, e1, e2, e3⟩ := prs_at pr (by omega : i < ml.length)
    rw [im] at e1
    cases e1
    have kb := k3 _ e3
    exact ⟨_, rfl, p, _, _, rfl, s2 _ _ e2, kb.1, kb.2, hR _ _ _ ⟨_, rfl⟩ (Same.refl _) rfl⟩
  obtain ⟨e1, e2⟩ := all_yes zs.length
  rw [e1] at hD'
  refine ⟨D, _, rfl, SqL.of hD', _, rfl, ?_⟩
  rw [e2]
  have ht' := ht.same s'
  refine iteF ⟨_, rfl, t, rfl, ⟨_, ht'.sq⟩, fun D2 hD2 => ?_⟩
  refine comp_go zs.length (by rw [sizeLine_eq]; omega) (fun i => .int (ml.getD i (0, 0)).1) (fun σ => ∃ o0 o1, σ = [o0, o1]) _ hD2 (by exact ⟨_, _, rfl⟩) (items_tupS fun H s => (ht'.same s).sq) (fun i x σ' H2 hi s2 im hσ R hR => ?_) (fun H3 s3 hD3 => ?_)
  · obtain ⟨o0, o1, rfl⟩ := hσ
    obtain ⟨p, e1, e2, _⟩ := prs_at pr (by omega : i < ml.length)
    rw [im] at e1
    cases e1
    exact ⟨p, _, rfl, SqT.of (s2 _ _ (s' _ _ e2)), rfl, _, _, rfl, _, _, rfl, rfl, _, rfl, hR _ _ _ ⟨_, _, rfl⟩ (Same.refl _) rfl⟩
  have el : ((List.range zs.length).map fun i => V.int (ml.getD i (0, 0)).1) = (BB.kys ml).map V.int := by
    rw [zm, List.map_map]
    exact BB.all_list (0, 0) ml (fun q => V.int q.1)
  rw [el] at hD3
  refine ⟨D2, _, rfl, .inl ⟨SqL.of hD3, fun l hl => ?_⟩⟩
  have s4 := same_new hl (.tup ((BB.kys ml).map V.int))
  refine ⟨l, BB.kys ml, rfl, upd_same, by rw [List.length_map]; exact ml12, bd, mo.up, fun H5 s5 => ?_⟩
  exact q H5 ((s'.trans s3).trans (s4.trans s5))
end
end K74
end
section
namespace K74
open PySem PySem.Spec PyProof.Rows L2
set_option maxHeartbeats 4000000
set_option maxRecDepth 100000
set_option Elab.async false
set_option linter.unusedVariables false
theorem hu2 {k : Nat} {A : Around} (r : Room k A) : A.units + 1 + 1 < cLine := by have := r.un; omega
def spUp : Sp := spOf (BB.steps3 [1, 2, 3])
def spDn : Sp := spOf fun ml => BB.tn (BB.steps3 [3, 2, 1] (BB.tn ml))
/-- a motley row between -999999800 and hi -/
structure Mb (ml : BB.Ps) (hi : Int) : Prop where
  mo : BB.Mo ml
  k3 : BB.K3 ml
  bd : ∀ p ∈ BB.kys ml, -999999800 ≤ p ∧ p ≤ hi
theorem Mb.up {ml : BB.Ps} {hi : Int} (h : Mb ml hi) (lo : -999999800 ≤ hi + 1) : Mb (BB.up3 ml) (hi + 12) := ⟨BB.steps3_mo _ h.mo, BB.up3_k3 h.mo h.k3, BB.up3_bd h.mo h.k3 h.bd lo⟩
def spSr : Sp := fun vs H Q _ => ∃ (a t : Addr) (x : Int) (b : Bool) (zs : List V) (ml : BB.Ps), vs = [.ref a, .ref t] ∧ StAt H a x b ∧ FT H t zs ∧ Prs H zs ml ∧ Mb ml 999999810 ∧
  ∀ (H' : Hp) (x' : Int), Keep a H H' → StAt H' a x' b → Q (.bl true) H'
theorem rws_de {H : Hp} {xs ys : List V} {rs : List (List Int)} (t : Rws H xs rs) (t' : Rws H ys rs) : xs.length = ys.length ∧ ∀ (j : Nat) (u v : V), xs[j]? = some u → ys[j]? = some v → De H 1 u v := by
  refine ⟨by rw [t.1, t'.1], fun j u v e1 e2 => ?_⟩
  have jl : j < rs.length := by rw [← t.1]; exact (List.getElem?_eq_some_iff.mp e1).1
  obtain ⟨p, x1, x2⟩ := t.2 j _ (List.getElem?_eq_getElem jl)
  obtain ⟨p', y1, y2⟩ := t'.2 j _ (List.getElem?_eq_getElem jl)
  rw [e1] at x1
  rw [e2] at y1
  cases x1
  cases y1
  refine .inr ⟨p, p', _, _, rfl, rfl, x2, y2, rfl, fun i u v f1 f2 => ?_⟩
  rw [f1] at f2
  cases f2
  obtain ⟨z, _, rfl⟩ := List.mem_map.mp (List.mem_of_getElem? f1)
  exact ⟨z, rfl, rfl⟩
theorem two_dt {K : PySem.W.Frag} {H : Hp} {a b : Addr} {xs ys : List V} {bl : BB.Ps} (ha : SqT K H a xs) (hb : SqT K H b ys) (t : Prs H xs bl) (t' : Prs H ys bl) : DT K 1 H (.ref a) (.ref b) := by
  obtain ⟨l, d⟩ := prs_de t t'
  exact ⟨a, b, xs, ys, rfl, rfl, ha, hb, l, d⟩
theorem keep_of {a : Addr} {H H' : Hp} (s : Same H H') : Keep a H H' := fun c o _ h => s c o h
theorem keep_trans {a : Addr} {H H1 H2 : Hp} (k : Keep a H H1) (k' : Keep a H1 H2) : Keep a H H2 := fun c o n h => k' c o n (k c o n h)
theorem keep_same {a : Addr} {H H1 H2 : Hp} (k : Keep a H H1) (s : Same H1 H2) : Keep a H H2 := fun c o n h => s c o (k c o n h)
theorem keep_new (a : Addr) (H : Hp) (o : HO) : Keep a H (upd H a o) := fun c u n h => by rw [upd_ne n]; exact h
theorem StAt.on {H H' : Hp} {a : Addr} {x : Int} {b : Bool} (h : StAt H a x b) (s : Same H H') : StAt H' a x b := ⟨s _ _ h.1, h.2⟩
theorem StAt.put {H : Hp} {a : Addr} {x' : Int} {b : Bool} (d : Dok x' b) : StAt (L2.upd H a (.lst [.int x', .bl b])) a x' b := ⟨upd_same, d⟩
theorem tup_keep {a : Addr} {x : Int} {b : Bool} {H H' : Hp} (st : StAt H a x b) (k : Keep a H H') : ∀ p xs, H p = some (.tup xs) → H' p = some (.tup xs) := fun p xs e => k _ _ (ne_of e st.1 (by intro z; cases z)) e
theorem kinds_list (zs : List V) (ml : BB.Ps) (zm : zs.length = ml.length) : ((List.range zs.length).map fun i => V.int (ml.getD i (0, 0)).2) = (ml.map (·.2)).map V.int := by
  rw [zm, List.map_map]
  exact BB.all_list (0, 0) ml (fun q => V.int q.2)
section
variable {P : Program} {w : World} {K : PySem.W.Frag} {mg : Str → Option Value} {base : Heap}
set_option maxRecDepth 100000 in
theorem ok_L_steps_right {f : Addr} {fd : FuncData} (F : Fun K "_law_steps_right" "_law_steps_right" s_L_steps_right f fd) (nb : NbE mg) (h_L_take : Has P w K mg base 1 "_law_take" ["_law_state_here", "_law_many"] (spTake K)) (h_motley_carried : Has P w K mg base 4 "motley_carried" ["motley"] spUp) (h_motley_undone : Has P w K mg base 4 "motley_undone" ["motley"] spDn) (h_is_motley : Has P w K mg base 3 "is_motley" ["thing"] spMt) (h_staying : Has P w K mg base 2 "staying" ["motley"] spStay)  :
    FnOk P w K mg base CX0 5 f fd ["_law_state_here", "_law_motley_here"] spSr := by
  have nd := sc_L_steps_right.nd
  refine F.ok (k := 4) sc_L_steps_right (fun vs H Q E h => ?_) (fun cdv A outer s H vs Q E hr h => ?_)
  · obtain ⟨a, t, x, b, zs, ml, rfl, _⟩ := h
    rfl
  obtain ⟨a, t, x, b, zs, ml, rfl, st, ht, pr, mb, q⟩ := h
  refine ⟨_, (pss_cons (ps_par (i := 2) (j := 3) rfl nd rfl rfl (by decide) rfl rfl (pa_cons (pv 1) (pa_cons (pe_def h_staying hr (pa_cons (pv 1) pa_nil)) pa_nil)) rfl)
(pss_cons (ps_for PassesOwn.never rfl (pi_range1 rfl nb.range (pa_cons (pe_op op_add pe_int (pe_def h_L_take hr (pa_cons (pv 0) (pa_cons pe_int pa_nil)))) pa_nil)) (pg_name (i := 4) nd rfl (Or.inl rfl))
(pss_cons (ps_set (i := 5) nd rfl (Or.inl rfl) (pe_def h_motley_carried hr (pa_cons (pv 2) pa_nil)))
(pss_cons (ps_if (PW.pt (pw_or (pt_cmpR op_isntB (pe_def h_is_motley hr (pa_cons (pv 5) pa_nil)) pe_bl (nomark _)) (pw_or (pt_cmpR (op_neDT (n := 1) (hu2 hr)) (pe_def h_motley_undone hr (pa_cons (pv 5) pa_nil)) (pv 2) (nomark _)) (pw_or1 (pt_cmpR (op_neD (n := 1) (hu2 hr)) (pe_def h_staying hr (pa_cons (pv 5) pa_nil)) (pv 3) (nomark _))))))
(pss_one (ps_ret pe_bl))
pss_nil)
(pss_cons (ps_if (pt_cmpR (op_neL hr.units0) (pe_callB call_sortL rfl nb.sorted boot_sorted (pa_cons (pe_comp2 (sc := defScope s_L_steps_right) (N0 := ["_law_state_here", "_law_motley_here", "_law_here", "_law_due", "_law_turn", "_law_there"]) (N := []) (js := []) rfl rfl rfl (by exact ⟨rfl, by decide +kernel, by decide +kernel, by decide +kernel, rfl, rfl, by decide, by decide +kernel, by decide +kernel⟩) rfl rfl
(pi_tup (pv 5))
(fun _ _ _ _ _ => by exact pts_nil)
(fun _ _ _ _ _ => by exact (pv 1))) pa_nil)) (pe_callB call_sortL rfl nb.sorted boot_sorted (pa_cons (pe_comp2 (sc := defScope s_L_steps_right) (N0 := ["_law_state_here", "_law_motley_here", "_law_here", "_law_due", "_law_turn", "_law_there"]) (N := []) (js := []) rfl rfl rfl (by exact ⟨rfl, by decide +kernel, by decide +kernel, by decide +kernel, rfl, rfl, by decide, by decide +kernel, by decide +kernel⟩) rfl rfl
(pi_tup (pv 1))
(fun _ _ _ _ _ => by exact pts_nil)
(fun _ _ _ _ _ => by exact (pv 1))) pa_nil)) (nomark _))
(pss_one (ps_ret pe_bl))
pss_nil)
(pss_one (ps_set (i := 2) nd rfl (Or.inl rfl) (pv 5)))))))
(pss_one (ps_ret (pe_cmpR (op_eqDT (n := 1) (hu2 hr)) (pe_def h_motley_carried hr (pa_cons (pe_def h_motley_undone hr (pa_cons (pv 1) pa_nil)) pa_nil)) (pv 1) (nomark _)))))), ?_⟩
  have zm := pr.1
  have ml12 := mb.mo.len
  refine ⟨_, rfl, _, rfl, t, zs, ml, rfl, ht, pr, by omega, fun L ys0 H0 s0 hL hL0 rw0 => ⟨_, _, rfl, ?_⟩⟩
  have st0 := st.on s0
  refine ⟨_, rfl, a, x, b, 12, rfl, st0, by decide, by decide, fun v x1 v0 v1 d1 => ?_⟩
  have k1 := keep_new a H0 (.lst [.int x1, .bl b])
  have st1 : StAt (upd H0 a (.lst [.int x1, .bl b])) a x1 b := StAt.put d1
  have kk := keep_trans (keep_of (a := a) s0) k1
  have ht1 := ft_keep (ht.same s0) st0 k1
  have pr1 := prs_keep (prs_same pr s0) (tup_keep st0 k1)
  have hL1 := k1 _ _ (fun z => by rw [z, st.1] at hL; cases hL) hL0
  have rw1 := rw0.keep (tup_keep st0 k1)
  generalize upd H0 a (.lst [.int x1, .bl b]) = H1 at k1 st1 kk ht1 pr1 hL1 rw1 ⊢
  refine ⟨_, _, rfl, rfl, _, rfl, by omega, by omega, ?_⟩
  refine for_range (fun i σ H' => ∃ (r : Addr) (zs' : List V) (mi : BB.Ps) (o4 o5 : Option V), σ = [some (.ref a), some (.ref t), some (.ref r), some (.ref L), o4, o5] ∧ Same H1 H' ∧ FT H' r zs' ∧ Prs H' zs' mi ∧ Mb mi (999999810 + 12 * (i : Int)) ∧ BB.puts (mi.map (·.2)) = BB.puts (ml.map (·.2)) ∧ (mi.map (·.2)).Perm (ml.map (·.2))) ⟨t, zs, ml, _, _, rfl, Same.refl _, ht1, pr1, ?_, rfl, List.Perm.refl _⟩ (fun i σ H2 hi hp => ?_) (fun σ H2 hp => ?_)
  · exact ⟨mb.mo, mb.k3, fun p hp => by have := mb.bd p hp; omega⟩
  · obtain ⟨r, zs2, mi, o4, o5, rfl, s2, ht2, pr2, m2, lists, kinds⟩ := hp
    refine ⟨_, rfl, r, zs2, mi, rfl, ht2, pr2, m2.mo, fun r3 zs3 H3 s3 ht3 pr3 => ?_⟩
    have pr3 : Prs H3 zs3 (BB.up3 mi) := pr3
    have m3 := m2.up (by omega)
    have zm3 := pr3.1
    have l3 := m3.mo.len
    refine ⟨_, rfl, r3, zs3, _, rfl, ht3, pr3, m3.mo, m3.k3, fun p hp => by have := m3.bd p hp; omega, fun H4 s4 => ⟨_, rfl, _, rfl, ?_⟩⟩
    rw [decide_eq_true rfl]
    refine iteF ?_
    refine ⟨_, rfl, r3, zs3, _, rfl, ht3.same s4, prs_same pr3 s4, m3.mo, fun r5 zs5 H5 s5 ht5 pr5 => ?_⟩
    have pr5 : Prs H5 zs5 (BB.dn3 (BB.up3 mi)) := pr5
    rw [BB.dn_up3 m2.mo m2.k3.nz] at pr5
    have s25 := (s3.trans s4).trans s5
    refine ⟨_, rfl, two_dt ht5.sq (ht2.same s25).sq pr5 (prs_same pr2 s25), _, rfl, iteF ?_⟩
    have s35 := s4.trans s5
    refine ⟨_, rfl, r3, zs3, _, rfl, ht3.same s35, prs_same pr3 s35, by omega, fun l6 ys6 H6 s6 hl6 hl6' rw6 => ?_⟩
    rw [BB.up3_lists m2.mo m2.k3, lists] at rw6
    have s16 := s2.trans (s25.trans s6)
    obtain ⟨le, de⟩ := rws_de rw6 (rw1.same s16)
    refine ⟨_, rfl, l6, L, _, _, rfl, rfl, SqL.of hl6', SqL.of (s16 _ _ hL1), le, de, _, rfl, iteF ?_⟩
    have s36 := s35.trans s6
    have ht6 := ht3.same s36
    have pr6 := prs_same pr3 s36
    refine ⟨_, rfl, r3, rfl, ⟨_, ht6.sq⟩, fun D hD => ?_⟩
    refine comp_go zs3.length (by rw [sizeLine_eq]; omega) (fun i => .int ((BB.up3 mi).getD i (0, 0)).2) (fun σ => ∃ o0 o1, σ = [o0, o1]) _ hD (by exact ⟨_, _, rfl⟩) (items_tupS fun H s => (ht6.same s).sq) (fun i x σ' H7 hi s7 im hσ R hR => ?_) (fun H7 s7 hD7 => ?_)
    · obtain ⟨o0, o1, rfl⟩ := hσ
      obtain ⟨p, e1, e2, _⟩ := prs_at pr6 (by omega : i < (BB.up3 mi).length)
      rw [im] at e1
      cases e1
      exact ⟨p, _, rfl, SqT.of (s7 _ _ e2), rfl, _, _, rfl, _, _, rfl, rfl, _, rfl, hR _ _ _ ⟨_, _, rfl⟩ (Same.refl _) rfl⟩
    rw [kinds_list zs3 _ zm3] at hD7
    refine ⟨D, _, rfl, .inl hD7, by rw [List.length_map]; omega, fun ns l8 pm le8 hl8 => ?_⟩
    have s8 := same_new hl8 (.lst (ns.map V.int))
    have h8 : (upd H7 l8 (.lst (ns.map V.int))) l8 = some (.lst (ns.map V.int)) := upd_same
    have s68 := s7.trans s8
    have s18 := s16.trans s68
    generalize upd H7 l8 (.lst (ns.map V.int)) = H8 at s8 h8 s68 s18 ⊢
    have ht8 := ht1.same s18
    have pr8 := prs_same pr1 s18
    refine ⟨_, rfl, t, rfl, ⟨_, ht8.sq⟩, fun D2 hD2 => ?_⟩
    refine comp_go zs.length (by rw [sizeLine_eq]; omega) (fun i => .int (ml.getD i (0, 0)).2) (fun σ => ∃ o0 o1, σ = [o0, o1]) _ hD2 (by exact ⟨_, _, rfl⟩) (items_tupS fun H s => (ht8.same s).sq) (fun i x σ' H9 hi s9 im hσ R hR => ?_) (fun H9 s9 hD9 => ?_)
    · obtain ⟨o0, o1, rfl⟩ := hσ
      obtain ⟨p, e1, e2, _⟩ := prs_at pr8 (by omega : i < ml.length)
      rw [im] at e1
      cases e1
      exact ⟨p, _, rfl, SqT.of (s9 _ _ e2), rfl, _, _, rfl, _, _, rfl, rfl, _, rfl, hR _ _ _ ⟨_, _, rfl⟩ (Same.refl _) rfl⟩
    rw [kinds_list zs _ zm] at hD9
    refine ⟨D2, _, rfl, .inl hD9, by rw [List.length_map]; omega, fun ms l10 pm2 le10 hl10 => ?_⟩
    have s10 := same_new hl10 (.lst (ms.map V.int))
    have pk : (BB.up3 mi |>.map (·.2)).Perm (ml.map (·.2)) := (BB.up3_kinds m2.mo m2.k3.nz).trans kinds
    have en : ns = ms := List.Perm.eq_of_pairwise (fun a b _ _ h1 h2 => Int.le_antisymm h1 h2) le8 le10 (pm.trans (pk.trans pm2.symm))
    subst en
    refine ⟨l8, l10, ns, ns, rfl, rfl, SqL.of (s10 _ _ (s9 _ _ h8)), SqL.of upd_same, rfl, _, rfl, ?_⟩
    rw [decide_eq_true rfl]
    have s110 := s18.trans (s9.trans s10)
    have s310 := s36.trans (s68.trans (s9.trans s10))
    refine iteF ⟨_, rfl, r3, zs3, BB.up3 mi, _, _, rfl, s110, ht3.same s310, prs_same pr3 s310, ?_, (BB.up3_lists m2.mo m2.k3).trans lists, pk⟩
    exact ⟨m3.mo, m3.k3, fun p hp => by have := m3.bd p hp; omega⟩
  · obtain ⟨r, zs2, mi, o4, o5, rfl, s2, ht2, pr2, m2, lists, kinds⟩ := hp
    refine ⟨_, rfl, t, zs, ml, rfl, ht1.same s2, prs_same pr1 s2, mb.mo, fun r3 zs3 H3 s3 ht3 pr3 => ?_⟩
    have pr3 : Prs H3 zs3 (BB.dn3 ml) := pr3
    have mo3 : BB.Mo (BB.dn3 ml) := BB.tn_mo (BB.steps3_mo _ (BB.tn_mo mb.mo))
    refine ⟨r3, zs3, _, rfl, ht3, pr3, mo3, fun r4 zs4 H4 s4 ht4 pr4 => ?_⟩
    have pr4 : Prs H4 zs4 (BB.up3 (BB.dn3 ml)) := pr4
    rw [BB.up_dn3 mb.mo mb.k3.nz] at pr4
    have s14 := s2.trans (s3.trans s4)
    refine ⟨_, rfl, two_dt ht4.sq (ht1.same s14).sq pr4 (prs_same pr1 s14), ?_⟩
    exact q H4 x1 (keep_same kk s14) (st1.on s14)
end
end K74
end
section
namespace K74
open PySem PySem.Spec PyProof.Rows L2
set_option maxHeartbeats 4000000
set_option maxRecDepth 100000
set_option Elab.async false
set_option linter.unusedVariables false
theorem same_keep {H H' : Hp} {r : Addr} {o : HO} (hr : H r = none) (k : Keep r (upd H r o) H') : Same H H' := fun c u h => k c u (ne_of_none h hr) (same_new hr o c u h)
def spLaw (K : PySem.W.Frag) : Sp := fun vs H Q _ => ∃ (a : Addr) (ns : List Int), vs = [.ref a] ∧ SqL K H a (ns.map V.int) ∧ ns.length ≤ 63 ∧ ∀ H', Q (.bl true) H'
theorem Keep.of {a : Addr} {H H' : Hp} (s : Same H H') : Keep a H H' := fun c o _ h => s c o h
theorem mb_near {ml : List (Int × Int)} (h : RowOk (ml.map (·.1))) (k : Kinds ml) : Mb ml 999999810 := ⟨⟨h.up, by have := h.len; rwa [List.length_map] at this⟩, k, fun p hp => by have := h.bd p hp; omega⟩
theorem mb_far {ml : List (Int × Int)} (h : Far (ml.map (·.1))) (k : Kinds ml) : Mb ml 999999810 := ⟨⟨h.up, by have := h.len; rwa [List.length_map] at this⟩, k, fun p hp => h.bd p hp⟩
theorem places_list (zs : List V) (ml : BB.Ps) (zm : zs.length = ml.length) : ((List.range zs.length).map fun i => V.int (ml.getD i (0, 0)).1) = (BB.kys ml).map V.int := by
  rw [zm, List.map_map]
  exact BB.all_list (0, 0) ml (fun q => V.int q.1)
theorem int_is {row : List Int} {i : Nat} {x : V} (h : (row.map V.int)[i]? = some x) : x = .int (row.getD i 0) := by
  rw [List.getElem?_map] at h
  rw [List.getD_eq_getElem?_getD]
  cases e : row[i]? with
  | none => rw [e] at h; cases h
  | some z => rw [e] at h; exact (Option.some.inj h).symm
theorem prs_made {H : Hp} {ys : List V} {bl : BB.Ps} (hl : ys.length = bl.length) (hy : ∀ (j : Nat) (y : V), ys[j]? = some y → ∃ p, y = .ref p ∧ H p = some (.tup [.int (bl.getD j (0, 0)).1, .int (bl.getD j (0, 0)).2])) : Prs H ys bl := by
  refine ⟨hl, fun j b e => ?_⟩
  have jl : j < ys.length := by rw [hl]; exact (List.getElem?_eq_some_iff.mp e).1
  obtain ⟨p, e1, e2⟩ := hy j _ (List.getElem?_eq_getElem jl)
  refine ⟨p, by rw [List.getElem?_eq_getElem jl, e1], ?_⟩
  rw [e2, List.getD_eq_getElem?_getD, e]
  rfl
theorem plain_at {row : List Int} {k : Int} {i : Nat} (h : i < row.length) : (row.map fun p => (p, k)).getD i (0, 0) = (row.getD i 0, k) := by
  rw [List.getD_eq_getElem?_getD, List.getD_eq_getElem?_getD, List.getElem?_map, List.getElem?_eq_getElem h]
  rfl
theorem un_at {ks : List Int} {x : Int} {i : Nat} (hk : ∀ y ∈ ks, y ≠ 0) (h : i < ks.length) : (BB.un x ks).getD i (0, 0) = (x + (i : Int), ks.getD i 0) := by
  rw [BB.un_enum ks x hk, List.getD_eq_getElem?_getD, List.getElem?_map, List.getElem?_range h]
  rfl
theorem un_len {ks : List Int} {x : Int} (hk : ∀ y ∈ ks, y ≠ 0) : (BB.un x ks).length = ks.length := by
  rw [BB.un_enum ks x hk, List.length_map, List.length_range]
theorem un_mo {ks : List Int} {x : Int} (hk : ∀ y ∈ ks, y ≠ 0) (l : ks.length ≤ 12) : BB.Mo (BB.un x ks) := ⟨List.pairwise_map.mpr (BB.un_up ks x), by rw [un_len hk]; exact l⟩
section
variable {P : Program} {w : World} {K : PySem.W.Frag} {mg : Str → Option Value} {base : Heap}
set_option maxRecDepth 100000 in
theorem ok_law {f : Addr} {fd : FuncData} (F : Fun K "law" "law" s_law f fd) (nb : NbE mg) (h_L_state : Has P w K mg base 2 "_law_state" ["_law_script", "_law_k"] (spState K)) (h_L_take : Has P w K mg base 1 "_law_take" ["_law_state_here", "_law_many"] (spTake K)) (h_L_motley : Has P w K mg base 3 "_law_motley" ["_law_state_here", "_law_gaps"] spMot) (h_L_far_motley : Has P w K mg base 3 "_law_far_motley" ["_law_state_here", "_law_motley_here"] spFarM) (h_L_steps_right : Has P w K mg base 5 "_law_steps_right" ["_law_state_here", "_law_motley_here"] spSr) (h_motley_carried : Has P w K mg base 4 "motley_carried" ["motley"] spUp) (h_kind_carried : Has P w K mg base 3 "kind_carried" ["motley", "kind"] spKc) (h_carried : Has P w K mg base 2 "carried" ["row"] spCar)  :
    FnOk P w K mg base CX0 6 f fd ["_law_script"] (spLaw K) := by
  have nd := sc_law.nd
  refine F.ok (k := 5) sc_law (fun vs H Q E h => ?_) (fun cdv A outer s H vs Q E hr h => ?_)
  · obtain ⟨a, ns, rfl, _⟩ := h
    rfl
  obtain ⟨a, ns, rfl, hS, h63, q⟩ := h
  refine ⟨_, (pss_cons (ps_for PassesOwn.never rfl (pi_range1 rfl nb.range (pa_cons (pe_callB (call_max2 rfl) rfl nb.max boot_max (pa_cons pe_int (pa_cons (pe_callB (call_min2 rfl) rfl nb.min boot_min (pa_cons (pe_callB call_len_seq rfl nb.len PySem.boot_len (pa_cons (pv 0) pa_nil)) (pa_cons pe_int pa_nil))) pa_nil))) pa_nil)) (pg_name (i := 1) nd rfl (Or.inl rfl))
(pss_cons (ps_set (i := 2) nd rfl (Or.inr rfl) (pe_def h_L_state hr (pa_cons (pv 0) (pa_cons (pv 1) pa_nil))))
(pss_cons (ps_set (i := 3) nd rfl (Or.inl rfl) (pe_def h_L_motley hr (pa_cons (pv 2) (pa_cons (pe_lst (pa_cons pe_int (pa_cons pe_int (pa_cons pe_int pa_nil)))) pa_nil))))
(pss_cons (ps_mid (ps_if (pt_cmpR op_eq (pe_def h_L_take hr (pa_cons (pv 2) (pa_cons pe_int pa_nil))) pe_int (nomark _))
(pss_one (ps_set (i := 3) nd rfl (Or.inl rfl) (pe_def h_L_far_motley hr (pa_cons (pv 2) (pa_cons (pv 3) pa_nil)))))
pss_nil))
(pss_cons (ps_if (pt_not (pt_truth (pe_def h_L_steps_right hr (pa_cons (pv 2) (pa_cons (pv 3) pa_nil))) (fun _ => rfl)))
(pss_one (ps_ret pe_bl))
pss_nil)
(pss_cons (ps_set (i := 4) nd rfl (Or.inl rfl) (pe_callTy call_tuple_of rfl nb.tuple boot_tuple (pa_cons (pe_comp2 (sc := defScope s_law) (N0 := ["_law_script", "_law_k", "_law_state_here", "_law_motley_here", "_law_row_here", "_law_kind", "_law_plain", "_law_kinds", "_law_block"]) (N := []) (js := []) rfl rfl rfl (by exact ⟨rfl, by decide +kernel, by decide +kernel, by decide +kernel, rfl, rfl, by decide, by decide +kernel, by decide +kernel⟩) rfl rfl
(pi_tup (pv 3))
(fun _ _ _ _ _ => by exact pts_nil)
(fun _ _ _ _ _ => by exact (pv 0))) pa_nil)))
(pss_cons (ps_set (i := 5) nd rfl (Or.inr rfl) (pe_op op_add pe_int (pe_def h_L_take hr (pa_cons (pv 2) (pa_cons pe_int pa_nil)))))
(pss_cons (ps_set (i := 6) nd rfl (Or.inl rfl) (pe_callTy call_tupF rfl nb.tuple boot_tuple (pa_cons (pe_comp1 (sc := defScope s_law) (N0 := ["_law_script", "_law_k", "_law_state_here", "_law_motley_here", "_law_row_here", "_law_kind", "_law_plain", "_law_kinds", "_law_block"]) (N := ["_law_kind"]) (js := [5]) rfl rfl rfl (by exact ⟨rfl, by decide +kernel, by decide +kernel, by decide +kernel, rfl, rfl, by decide, by decide +kernel, by decide +kernel⟩) rfl
(pi_tup (pv 4))
(fun _ _ _ _ _ => by exact pts_nil)
(fun _ _ _ _ _ => by exact (pe_tup (pa_cons (pv 0) (pa_cons (pv 1) pa_nil))))) pa_nil)))
(pss_cons (ps_if (pt_cmpR (op_neDT (n := 1) (hu2 hr)) (pe_def h_motley_carried hr (pa_cons (pv 6) pa_nil)) (pe_callTy call_tuple_of rfl nb.tuple boot_tuple (pa_cons (pe_comp1 (sc := defScope s_law) (N0 := ["_law_script", "_law_k", "_law_state_here", "_law_motley_here", "_law_row_here", "_law_kind", "_law_plain", "_law_kinds", "_law_block"]) (N := ["_law_kind"]) (js := [5]) rfl rfl rfl (by exact ⟨rfl, by decide +kernel, by decide +kernel, by decide +kernel, rfl, rfl, by decide, by decide +kernel, by decide +kernel⟩) rfl
(pi_tup (pe_def h_carried hr (pa_cons (pv 4) pa_nil)))
(fun _ _ _ _ _ => by exact pts_nil)
(fun _ _ _ _ _ => by exact (pe_tup (pa_cons (pv 0) (pa_cons (pv 1) pa_nil))))) pa_nil)) (nomark _))
(pss_one (ps_ret pe_bl))
pss_nil)
(pss_cons (ps_if (PW.pt (pw_or (pt_cmpR (op_neDT (n := 1) (hu2 hr)) (pe_def h_kind_carried hr (pa_cons (pv 6) (pa_cons (pv 5) pa_nil))) (pe_def h_motley_carried hr (pa_cons (pv 6) pa_nil)) (nomark _)) (pw_or1 (pt_cmpR (op_neDT (n := 1) (hu2 hr)) (pe_def h_kind_carried hr (pa_cons (pv 6) (pa_cons (pe_op op_add pe_int (pe_op op_mod (pv 5) pe_int)) pa_nil))) (pv 6) (nomark _)))))
(pss_one (ps_ret pe_bl))
pss_nil)
(pss_cons (ps_set (i := 7) nd rfl (Or.inr rfl) (pe_callB call_sortL rfl nb.sorted boot_sorted (pa_cons (pe_comp1 (sc := defScope s_law) (N0 := ["_law_script", "_law_k", "_law_state_here", "_law_motley_here", "_law_row_here", "_law_kind", "_law_plain", "_law_kinds", "_law_block"]) (N := ["_law_state_here"]) (js := [2]) rfl rfl rfl (by exact ⟨rfl, by decide +kernel, by decide +kernel, by decide +kernel, rfl, rfl, by decide, by decide +kernel, by decide +kernel⟩) rfl
(pi_range1 rfl nb.range (pa_cons (pe_op op_add pe_int (pe_def h_L_take hr (pa_cons (pv 2) (pa_cons pe_int pa_nil)))) pa_nil))
(fun _ _ _ _ _ => by exact pts_nil)
(fun _ _ _ _ _ => by exact (pe_op op_add pe_int (pe_def h_L_take hr (pa_cons (pv 1) (pa_cons pe_int pa_nil)))))) pa_nil)))
(pss_cons (ps_set (i := 8) nd rfl (Or.inl rfl) (pe_callTy call_tupF rfl nb.tuple boot_tuple (pa_cons (pe_comp2 (sc := defScope s_law) (N0 := ["_law_script", "_law_k", "_law_state_here", "_law_motley_here", "_law_row_here", "_law_kind", "_law_plain", "_law_kinds", "_law_block"]) (N := []) (js := []) rfl rfl rfl (by exact ⟨rfl, by decide +kernel, by decide +kernel, by decide +kernel, rfl, rfl, by decide, by decide +kernel, by decide +kernel⟩) rfl rfl
(pi_enum rfl nb.enum (pa_cons (pv 7) pa_nil))
(fun _ _ _ _ _ => by exact pts_nil)
(fun _ _ _ _ _ => by exact (pe_tup (pa_cons (pv 0) (pa_cons (pv 1) pa_nil))))) pa_nil)))
(pss_one (ps_if (pt_cmpR (op_neDT (n := 1) (hu2 hr)) (pe_def h_motley_carried hr (pa_cons (pv 8) pa_nil)) (pe_callTy call_tuple_of rfl nb.tuple boot_tuple (pa_cons (pe_comp2 (sc := defScope s_law) (N0 := ["_law_script", "_law_k", "_law_state_here", "_law_motley_here", "_law_row_here", "_law_kind", "_law_plain", "_law_kinds", "_law_block"]) (N := ["_law_kinds"]) (js := [7]) rfl rfl rfl (by exact ⟨rfl, by decide +kernel, by decide +kernel, by decide +kernel, rfl, rfl, by decide, by decide +kernel, by decide +kernel⟩) rfl rfl
(pi_enum rfl nb.enum (pa_cons (pv 7) pa_nil))
(fun _ _ _ _ _ => by exact pts_nil)
(fun _ _ _ _ _ => by exact (pe_tup (pa_cons (pe_op op_add (pv 0) (pe_callB (call_lenK K rfl) rfl nb.len PySem.boot_len (pa_cons (pv 2) pa_nil))) (pa_cons (pv 1) pa_nil))))) pa_nil)) (nomark _))
(pss_one (ps_ret pe_bl))
pss_nil))))))))))))))
(pss_one (ps_ret pe_bl))), ?_⟩
  refine ⟨_, rfl, a, _, rfl, .inl hS, _, _, rfl, _, _, rfl, _, rfl, ?_, ?_, ?_⟩
  · split <;> split <;> omega
  · split <;> split <;> omega
  refine for_range (fun i σ H' => Same H H' ∧ ∃ o1 o2 o3 o4 o5 o6 o7 o8, σ = [some (.ref a), o1, o2, o3, o4, o5, o6, o7, o8]) ⟨Same.refl H, _, _, _, _, _, _, _, _, rfl⟩ (fun i σ H0 hi hp => ?_) (fun σ H0 hp => q _)
  obtain ⟨sm, o1, o2, o3, o4, o5, o6, o7, o8, rfl⟩ := hp
  refine ⟨_, rfl, _, rfl, a, ns, _, rfl, sm.seq hS, by omega, fun r x b hr0 d => ?_⟩
  have st1 : StAt (upd H0 r (.lst [.int x, .bl b])) r x b := StAt.put d
  generalize hG : upd H0 r (.lst [.int x, .bl b]) = G at st1 ⊢
  have fin : ∀ H', Keep r G H' → Same H H' := fun H' k => sm.trans (same_keep hr0 (by rw [hG]; exact k))
  refine ⟨_, rfl, (by show 3 ≤ sizeLine; decide), fun g hg => ?_⟩
  have s2 := same_new hg (.lst [.int 2, .int 5, .int 12])
  refine ⟨r, g, x, b, rfl, st1.on s2, upd_same, fun rr zs ml H2 x2 kp2 st2 hrow pr2 ro kd => ?_⟩
  have k2 : Keep r G H2 := keep_trans (keep_of s2) kp2
  refine ⟨fun σ' H' => ∃ (rr : Addr) (zs : List V) (ml : BB.Ps) (x' : Int), σ' = [some (.ref a), some (.int (0 + (i : Int))), some (.ref r), some (.ref rr), o4, o5, o6, o7, o8] ∧ Keep r G H' ∧ StAt H' r x' b ∧ FT H' rr zs ∧ Prs H' zs ml ∧ Mb ml 999999810, ?_, fun σ' H' hm => ?_⟩
  · refine ⟨_, rfl, r, x2, b, 3, rfl, st2, by decide, by decide, fun v x3 v0 v1 d3 => ?_⟩
    have k3 := keep_new r H2 (.lst [.int x3, .bl b])
    have st3 : StAt (upd H2 r (.lst [.int x3, .bl b])) r x3 b := StAt.put d3
    have ht3 := ft_keep hrow st2 k3
    have pr3 := prs_keep pr2 (tup_keep st2 k3)
    have kk := keep_trans k2 k3
    generalize upd H2 r (.lst [.int x3, .bl b]) = H3 at k3 st3 ht3 pr3 kk ⊢
    refine ⟨rfl, _, rfl, ?_⟩
    by_cases c : v = 0
    · rw [decide_eq_true (by rw [c])]
      refine iteT ⟨_, rfl, _, rfl, r, rr, x3, b, zs, ml, rfl, st3, ht3, pr3, ro, kd, fun r4 zs4 ml4 H4 x4 kp4 st4 ht4 pr4 fa kd4 => ?_⟩
      exact ⟨r4, zs4, ml4, x4, rfl, keep_trans kk kp4, st4, ht4, pr4, mb_far fa kd4⟩
    · rw [decide_eq_false (fun z => c (V.int.inj z))]
      exact iteF ⟨rr, zs, ml, x3, rfl, kk, st3, ht3, pr3, mb_near ro kd⟩
  clear k2 kp2 st2 hrow pr2 ro kd s2
  obtain ⟨rr, zs, ml, x2, rfl, k2, st2, ht2, pr2, mb⟩ := hm
  refine ⟨_, rfl, _, rfl, r, rr, x2, b, zs, ml, rfl, st2, ht2, pr2, mb, fun H3 x3 k3 st3 => ⟨_, rfl, iteF ?_⟩⟩
  have ht3 := ft_keep ht2 st2 k3
  have pr3 := prs_keep pr2 (tup_keep st2 k3)
  have kk3 := keep_trans k2 k3
  clear ht2 pr2 st2 k2 k3
  have zm := pr3.1
  have ml12 := mb.mo.len
  refine ⟨_, rfl, rr, rfl, ⟨_, ht3.sq⟩, fun D hD => ?_⟩
  refine comp_go zs.length (by rw [sizeLine_eq]; omega) (fun i => .int (ml.getD i (0, 0)).1) (fun σ => ∃ o0 o1, σ = [o0, o1]) _ hD (by exact ⟨_, _, rfl⟩) (items_tupS fun H s => (ht3.same s).sq) (fun i x σ' H4 hi s4 im hσ R hR => ?_) (fun H4 s4 hD4 => ?_)
  · obtain ⟨o0, o1, rfl⟩ := hσ
    obtain ⟨p, e1, e2, _⟩ := prs_at pr3 (by omega : i < ml.length)
    rw [im] at e1
    cases e1
    exact ⟨p, _, rfl, SqT.of (s4 _ _ e2), rfl, _, _, rfl, _, _, rfl, rfl, _, rfl, hR _ _ _ ⟨_, _, rfl⟩ (Same.refl _) rfl⟩
  rw [places_list zs ml zm] at hD4
  have rl : (BB.kys ml).length ≤ 12 := by rw [List.length_map]; exact ml12
  have rup := mb.mo.up
  have rbd := mb.bd
  generalize BB.kys ml = row at hD4 rl rup rbd
  clear ht3 pr3 zm ml12 mb
  refine ⟨D, _, rfl, .inl ⟨SqL.of hD4, fun l hl => ?_⟩⟩
  have s5 := same_new hl (.tup (row.map V.int))
  have h5 : (upd H4 l (.tup (row.map V.int))) l = some (.tup (row.map V.int)) := upd_same
  have st5 := st3.on (s4.trans s5)
  have kk5 := keep_same kk3 (s4.trans s5)
  generalize upd H4 l (.tup (row.map V.int)) = H5 at s5 h5 st5 kk5 ⊢
  clear s4 s5 hD4 hl
  refine ⟨_, rfl, r, x3, b, 3, rfl, st5, by decide, by decide, fun v x6 v0 v1 d6 => ⟨_, _, rfl, rfl, ?_⟩⟩
  have k6 := keep_new r H5 (.lst [.int x6, .bl b])
  have st6 : StAt (upd H5 r (.lst [.int x6, .bl b])) r x6 b := StAt.put d6
  have h6 := tup_keep st5 k6 _ _ h5
  have kk6 := keep_trans kk5 k6
  generalize upd H5 r (.lst [.int x6, .bl b]) = H6 at k6 st6 h6 kk6 ⊢
  clear k6 st5 h5 kk5
  dsimp only
  obtain ⟨k, ek⟩ : ∃ k : Int, k = 1 + v := ⟨_, rfl⟩
  have k1 : 1 ≤ k := by omega
  have k3 : k ≤ 3 := by omega
  rw [← ek]
  refine ⟨_, rfl, l, rfl, ⟨_, SqT.of h6⟩, fun D2 hD2 => ?_⟩
  have rlv : (row.map V.int).length = row.length := List.length_map ..
  refine comp_tups row.length (by rw [sizeLine_eq]; omega) (fun j => [.int ((row.map fun p => (p, k)).getD j (0, 0)).1, .int ((row.map fun p => (p, k)).getD j (0, 0)).2]) (fun σ => ∃ o1, σ = [o1, some (.int k)]) _ hD2 ⟨_, rfl⟩ (by rw [← rlv]; exact items_tup h6) (fun j z σ' H7 hj s7 im hσ R hR => ?_) (fun H7 ys s7 hD7 hl7 hy7 => ?_)
  · obtain ⟨o1, rfl⟩ := hσ
    obtain rfl := int_is im
    refine ⟨_, rfl, _, rfl, (by show 2 ≤ sizeLine; decide), fun p hp => hR _ _ _ ⟨_, rfl⟩ (same_new hp _) ?_⟩
    rw [upd_same, plain_at hj]
  refine ⟨D2, ys, rfl, SqL.of hD7, fun p o hp ho => ?_⟩
  have prp : Prs H7 ys (row.map fun p => (p, k)) := prs_made (by rw [List.length_map]; exact hl7) hy7
  have s8 := same_new hp (.frz o (.tup ys))
  have ft8 : FT (upd H7 p (.frz o (.tup ys))) p ys := ft_new ho
  have pr8 := prs_same prp s8
  have s68 := s7.trans s8
  have st8 := st6.on s68
  have h8 := s68 _ _ h6
  have kk8 := keep_same kk6 s68
  generalize upd H7 p (.frz o (.tup ys)) = H8 at s8 ft8 pr8 s68 st8 h8 kk8 ⊢
  clear prp s8 s7 hD7 hl7 hy7 hp st6 h6 kk6
  have pmo := BB.plain_mo rup rl k
  have su := BB.step_row rup
  have eU := BB.plain_up3 k1 k3 rup rl
  have eK := BB.plain_kc (k := k) (by omega) rup
  -- all balls of one kind
  refine ⟨_, rfl, p, ys, _, rfl, ft8, pr8, pmo, fun r9 zs9 H9 s9 ht9 pr9 => ?_⟩
  have pr9 : Prs H9 zs9 (BB.up3 (row.map fun p => (p, k))) := pr9
  rw [eU] at pr9
  refine ⟨_, rfl, l, row, row.length, rfl, s9 _ _ h8, ⟨⟨rup, rfl, fun z hz => by have := rbd z hz; omega⟩, rl⟩, fun r10 H10 s10 h10 => ?_⟩
  generalize BB.step row.length row = row2 at su pr9 h10 eU eK
  have r2v : (row2.map V.int).length = row2.length := List.length_map ..
  refine ⟨r10, rfl, ⟨_, SqT.of h10⟩, fun D3 hD3 => ?_⟩
  refine comp_tups row2.length (by rw [sizeLine_eq]; omega) (fun j => [.int ((row2.map fun p => (p, k)).getD j (0, 0)).1, .int ((row2.map fun p => (p, k)).getD j (0, 0)).2]) (fun σ => ∃ o1, σ = [o1, some (.int k)]) _ hD3 ⟨_, rfl⟩ (by rw [← r2v]; exact items_tup h10) (fun j z σ' H11 hj s11 im hσ R hR => ?_) (fun H11 ys11 s11 hD11 hl11 hy11 => ?_)
  · obtain ⟨o1, rfl⟩ := hσ
    obtain rfl := int_is im
    refine ⟨_, rfl, _, rfl, (by show 2 ≤ sizeLine; decide), fun p hp => hR _ _ _ ⟨_, rfl⟩ (same_new hp _) ?_⟩
    rw [upd_same, plain_at hj]
  refine ⟨D3, ys11, rfl, .inl ⟨SqL.of hD11, fun l12 hl12 => ?_⟩⟩
  have pr11 : Prs H11 ys11 (row2.map fun p => (p, k)) := prs_made (by rw [List.length_map]; exact hl11) hy11
  have s12 := same_new hl12 (.tup ys11)
  have h12 : (upd H11 l12 (.tup ys11)) l12 = some (.tup ys11) := upd_same
  have pr12 := prs_same pr11 s12
  have s912 := s10.trans (s11.trans s12)
  generalize upd H11 l12 (.tup ys11) = H12 at s12 h12 pr12 s912 ⊢
  refine ⟨two_dt (ht9.same s912).sq (SqT.of h12) (prs_same pr9 s912) pr12, _, rfl, iteF ?_⟩
  have s812 := s9.trans s912
  have st12 := st8.on s812
  have ft12 := ft8.same s812
  have pp12 := prs_same pr8 s812
  have kk12 := keep_same kk8 s812
  clear s912 pr12 h12 s12 pr11 hD11 hl11 hy11 s11 s10 h10 hl12 ht9 pr9 s9 s812 st8 ft8 pr8 kk8 h8
  -- its kind, another kind
  refine ⟨_, rfl, _, rfl, p, k, ys, _, rfl, k1, k3, ft12, pp12, pmo, fun r13 zs13 H13 s13 ht13 pr13 => ?_⟩
  rw [eK] at pr13
  refine ⟨_, rfl, p, ys, _, rfl, ft12.same s13, prs_same pp12 s13, pmo, fun r14 zs14 H14 s14 ht14 pr14 => ?_⟩
  have pr14 : Prs H14 zs14 (BB.up3 (row.map fun p => (p, k))) := pr14
  rw [eU] at pr14
  refine ⟨two_dt (ht13.same s14).sq ht14.sq (prs_same pr13 s14) pr14, _, rfl, iteF ?_⟩
  have s1214 := s13.trans s14
  have km : 1 ≤ 1 + k % 3 ∧ 1 + k % 3 ≤ 3 ∧ k ≠ 1 + k % 3 := by omega
  refine ⟨_, rfl, _, rfl, _, _, rfl, rfl, (by show 0 < (3 : Int); decide), _, _, rfl, rfl, p, _, ys, _, rfl, km.1, km.2.1, ft12.same s1214, prs_same pp12 s1214, pmo, fun r15 zs15 H15 s15 ht15 pr15 => ?_⟩
  rw [BB.plain_other (k := k) (k' := 1 + k % 3) (by omega) (by omega) km.2.2 rup rl] at pr15
  have s1215 := s1214.trans s15
  refine ⟨_, rfl, two_dt ht15.sq (ft12.same s1215).sq pr15 (prs_same pp12 s1215), _, rfl, iteF ?_⟩
  have st15 := st12.on s1215
  have kk15 := keep_same kk12 s1215
  clear s1215 pr15 ht15 s15 s1214 pr14 ht14 s14 pr13 ht13 s13 st12 ft12 pp12 kk12 km eU eK su r2v pmo rlv rup rl rbd
  -- a block
  refine ⟨_, rfl, r, x6, b, 12, rfl, st15, by decide, by decide, fun n x16 n0 n1 d16 => ⟨_, _, rfl, rfl, ?_⟩⟩
  have k16 := keep_new r H15 (.lst [.int x16, .bl b])
  have st16 : StAt (upd H15 r (.lst [.int x16, .bl b])) r x16 b := StAt.put d16
  have kk16 := keep_trans kk15 k16
  generalize upd H15 r (.lst [.int x16, .bl b]) = H16 at k16 st16 kk16 ⊢
  refine ⟨_, rfl, by omega, by omega, fun D4 hD4 => ?_⟩
  have Dr : D4 ≠ r := fun z => by rw [z, st16.1] at hD4; cases hD4
  refine comp_inv (1 + n).toNat (by rw [sizeLine_eq]; omega) (fun i σ H' ys => ∃ (o1 : Option V) (ks : List Int) (x' : Int), σ = [o1, some (.ref r)] ∧ Keep r H16 H' ∧ StAt H' r x' b ∧ H' D4 = some (.lst ys) ∧ ys = ks.map V.int ∧ ks.length = i ∧ ∀ y ∈ ks, 1 ≤ y ∧ y ≤ 3) (fun i x => x = .int (0 + (i : Int))) ?_ (fun i σ H' ys h => ?_) (fun i σ H' ys _ => ?_) (fun i x σ H' ys hi h im R hR => ?_) (fun σ H17 ys h => ?_)
  · exact ⟨_, [], x16, rfl, keep_of (same_new hD4 _), st16.on (same_new hD4 _), upd_same, rfl, rfl, fun y hy => absurd hy List.not_mem_nil⟩
  · obtain ⟨o1, ks, x', rfl, kp, st, hd, rfl, lk, bk⟩ := h
    exact ⟨hd, by rw [List.length_map]; exact lk⟩
  · exact ⟨fun hi => ⟨hi, fun x H2 ⟨e, y⟩ => ⟨e, y⟩⟩, fun hi => hi⟩
  · obtain ⟨o1, ks, x', rfl, kp, st, hd, rfl, lk, bk⟩ := h
    refine ⟨_, rfl, r, x', b, 3, rfl, st, by decide, by decide, fun v y7 v0 v1' d7 => ⟨_, _, rfl, rfl, ?_⟩⟩
    have k7 := keep_new r H' (.lst [.int y7, .bl b])
    have st7 : StAt (upd H' r (.lst [.int y7, .bl b])) r y7 b := StAt.put d7
    have hd7 := k7 _ _ Dr hd
    have kp7 := keep_trans kp k7
    generalize upd H' r (.lst [.int y7, .bl b]) = H7 at k7 st7 hd7 kp7 ⊢
    refine hR _ _ _ hd7 ⟨_, ks ++ [1 + v], y7, rfl, fun c o nc e => ?_, ⟨by rw [upd_ne Dr.symm]; exact st7.1, st7.2⟩, upd_same, by rw [List.map_append]; rfl, by rw [List.length_append, List.length_singleton, lk], fun y hy => ?_⟩
    · rw [upd_ne (ne_of_none e hD4)]
      exact kp7 c o nc e
    · rcases List.mem_append.mp hy with z | z
      · exact bk y z
      · rw [List.mem_singleton.mp z]
        omega
  obtain ⟨o1', ks, x17, rfl, kp17, st17, hd17, rfl, lk, bk⟩ := h
  have kk17 := keep_trans kk16 kp17
  refine ⟨D4, ks, rfl, .inl hd17, by omega, fun ms l18 pm le18 hl18 => ?_⟩
  have lm : ms.length = ks.length := pm.length_eq
  have bm : ∀ y ∈ ms, 1 ≤ y ∧ y ≤ 3 := fun y hy => bk y (pm.mem_iff.mp hy)
  have nzm : ∀ y ∈ ms, y ≠ 0 := fun y hy => by have := bm y hy; omega
  have m12 : ms.length ≤ 12 := by omega
  have s18 := same_new hl18 (.lst (ms.map V.int))
  have h18 : (upd H17 l18 (.lst (ms.map V.int))) l18 = some (.lst (ms.map V.int)) := upd_same
  have kk18 := keep_same kk17 s18
  generalize upd H17 l18 (.lst (ms.map V.int)) = H18 at s18 h18 kk18 ⊢
  clear kk17 kk16 kk15 kp17 k16
  have msv : (ms.map V.int).length = ms.length := List.length_map ..
  have items : ∀ {H1 : Hp}, H1 l18 = some (.lst (ms.map V.int)) → ∀ (j : Nat) (H2 : Hp), Same H1 H2 → (j < ms.length → (Ite K l18).go j H2 ∧ ∀ v H3, (Ite K l18).yld j H2 v H3 → Same H2 H3 ∧ ∃ q, v = .ref q ∧ H3 q = some (.tup [.int (j : Int), .int (ms.getD j 0)])) ∧ (ms.length ≤ j → (Ite K l18).stop j H2) := fun {H1} hh j H2 s2 => by
    have := items_enum (K := K) hh j H2 s2
    rw [msv] at this
    refine ⟨fun hj => ⟨(this.1 hj).1, fun v H3 yl => ?_⟩, this.2⟩
    obtain ⟨s3, q, u, e1, e2, e3⟩ := (this.1 hj).2 v H3 yl
    exact ⟨s3, q, e1, by rw [e2, int_is e3]⟩
  refine ⟨_, rfl, l18, _, rfl, SqL.of h18, fun D5 hD5 => ?_⟩
  refine comp_tups ms.length (by rw [sizeLine_eq]; omega) (fun j => [.int ((BB.un 0 ms).getD j (0, 0)).1, .int ((BB.un 0 ms).getD j (0, 0)).2]) (fun σ => ∃ o0 o1, σ = [o0, o1]) (fun j H' v => ∃ q, v = .ref q ∧ H' q = some (.tup [.int (j : Int), .int (ms.getD j 0)])) hD5 ⟨_, _, rfl⟩ (items h18) (fun j z σ' H19 hj s19 im hσ R hR => ?_) (fun H19 ys19 s19 hD19 hl19 hy19 => ?_)
  · obtain ⟨o0, o1, rfl⟩ := hσ
    obtain ⟨qq, rfl, hq⟩ := im
    refine ⟨qq, _, rfl, SqT.of hq, rfl, _, _, rfl, _, _, rfl, rfl, _, rfl, _, rfl, (by show 2 ≤ sizeLine; decide), fun p hp => hR _ _ _ ⟨_, _, rfl⟩ (same_new hp _) ?_⟩
    rw [upd_same, un_at nzm hj, Int.zero_add]
  refine ⟨D5, ys19, rfl, SqL.of hD19, fun p20 o20 hp20 ho20 => ?_⟩
  have pr19 : Prs H19 ys19 (BB.un 0 ms) := prs_made (by rw [un_len nzm]; exact hl19) hy19
  have s20 := same_new hp20 (.frz o20 (.tup ys19))
  have ft20 : FT (upd H19 p20 (.frz o20 (.tup ys19))) p20 ys19 := ft_new ho20
  have pr20 := prs_same pr19 s20
  have s1820 := s19.trans s20
  generalize upd H19 p20 (.frz o20 (.tup ys19)) = H20 at s20 ft20 pr20 s1820 ⊢
  refine ⟨_, rfl, p20, ys19, _, rfl, ft20, pr20, un_mo nzm m12, fun r21 zs21 H21 s21 ht21 pr21 => ?_⟩
  have pr21 : Prs H21 zs21 (BB.up3 (BB.un 0 ms)) := pr21
  rw [BB.block_up3 le18 bm 0] at pr21
  have h21 := s21 _ _ (s1820 _ _ h18)
  refine ⟨_, rfl, l18, _, rfl, SqL.of h21, fun D6 hD6 => ?_⟩
  refine comp_tups ms.length (by rw [sizeLine_eq]; omega) (fun j => [.int ((BB.un (0 + (ms.length : Int)) ms).getD j (0, 0)).1, .int ((BB.un (0 + (ms.length : Int)) ms).getD j (0, 0)).2]) (fun σ => ∃ o0 o1, σ = [o0, o1, some (.ref l18)]) (fun j H' v => ∃ q, v = .ref q ∧ H' q = some (.tup [.int (j : Int), .int (ms.getD j 0)])) hD6 ⟨_, _, rfl⟩ (items h21) (fun j z σ' H22 hj s22 im hσ R hR => ?_) (fun H22 ys22 s22 hD22 hl22 hy22 => ?_)
  · obtain ⟨o0, o1, rfl⟩ := hσ
    obtain ⟨qq, rfl, hq⟩ := im
    refine ⟨qq, _, rfl, SqT.of hq, rfl, _, _, rfl, _, _, rfl, rfl, _, rfl, _, rfl, l18, _, rfl, .inl (SqL.of (s22 _ _ h21)), _, _, rfl, rfl, _, rfl, (by show 2 ≤ sizeLine; decide), fun p hp => hR _ _ _ ⟨_, _, rfl⟩ (same_new hp _) ?_⟩
    rw [upd_same, un_at nzm hj, msv, Int.zero_add, Int.add_comm (ms.length : Int) (j : Int)]
  refine ⟨D6, ys22, rfl, .inl ⟨SqL.of hD22, fun l23 hl23 => ?_⟩⟩
  have pr22 : Prs H22 ys22 (BB.un (0 + (ms.length : Int)) ms) := prs_made (by rw [un_len nzm]; exact hl22) hy22
  have s23 := same_new hl23 (.tup ys22)
  have h23 : (upd H22 l23 (.tup ys22)) l23 = some (.tup ys22) := upd_same
  have pr23 := prs_same pr22 s23
  have s2123 := s22.trans s23
  generalize upd H22 l23 (.tup ys22) = H23 at s23 h23 pr23 s2123 ⊢
  refine ⟨two_dt (ht21.same s2123).sq (SqT.of h23) (prs_same pr21 s2123) pr23, _, rfl, iteF ?_⟩
  exact ⟨fin _ (keep_same kk18 (s1820.trans (s21.trans s2123))), _, _, _, _, _, _, _, _, rfl⟩
end
end K74
end
namespace K74
open PySem PySem.Spec PyProof.Rows L2
set_option maxHeartbeats 4000000
set_option Elab.async false
theorem all_mk {l : PySem.W.OpenLaw} {w : World} {K : PySem.W.Frag} {h : Heap} {mg : Str → Option Value} {fa kk f1 f2 f3 f4 f5 f6 f7 f8 f9 f10 f11 f12 f13 f14 f15 f16 f17 f18 f19 f20 f21 f22 f23 : Addr} (X : K.In h) (G : h.Ns mainGlobals mg) (hfa : mg "law" = some (.ref fa))
    {od1 an1 od2 an2 od3 an3 od4 an4 od5 an5 od6 an6 od7 an7 od8 an8 od9 an9 od10 an10 od11 an11 od12 an12 od13 an13 od14 an14 od15 an15 od16 an16 od17 an17 od18 an18 od19 an19 od20 an20 od21 an21 od22 an22 od23 an23 : Option Addr} {sl1 sl2 sl3 sl4 sl5 sl6 sl7 sl8 sl9 sl10 sl11 sl12 sl13 sl14 sl15 sl16 sl17 sl18 sl19 sl20 sl21 sl22 sl23 : Array (Option Value)} {oc1 kV1 dc1 pm1 cd1 ct1 oc2 kV2 dc2 pm2 cd2 ct2 oc3 kV3 dc3 pm3 cd3 ct3 oc4 kV4 dc4 pm4 cd4 ct4 oc5 kV5 dc5 pm5 cd5 ct5 oc6 kV6 dc6 pm6 cd6 ct6 oc7 kV7 dc7 pm7 cd7 ct7 oc8 kV8 dc8 pm8 cd8 ct8 oc9 kV9 dc9 pm9 cd9 ct9 oc10 kV10 dc10 pm10 cd10 ct10 oc11 kV11 dc11 pm11 cd11 ct11 oc12 kV12 dc12 pm12 cd12 ct12 oc13 kV13 dc13 pm13 cd13 ct13 oc14 kV14 dc14 pm14 cd14 ct14 oc15 kV15 dc15 pm15 cd15 ct15 oc16 kV16 dc16 pm16 cd16 ct16 oc17 kV17 dc17 pm17 cd17 ct17 oc18 kV18 dc18 pm18 cd18 ct18 oc19 kV19 dc19 pm19 cd19 ct19 oc20 kV20 dc20 pm20 cd20 ct20 oc21 kV21 dc21 pm21 cd21 ct21 oc22 kV22 dc22 pm22 cd22 ct22 oc23 kV23 dc23 pm23 cd23 ct23 : Value}
    {u1 u2 u3 : Value} {okk : Option Addr} {t1_ t2_ t3_ : Tok} {nkk : Nat} {skk : Array (Option Value)}
    (a1 : PySem.W.nsIn K mainGlobals "is_number" = some (some (.ref f1))) (l1 : K.lookup f1 = some ⟨oc1, od1, .func (PySem.W.fnOf "is_number" "is_number" (defArgs s_is_number) (defBody s_is_number) (defScope s_is_number) .none kV1 dc1 pm1 an1 cd1 ct1), sl1⟩) (c1 : PySem.W.codeIn K cd1 "is_number" = true) (k1 : PySem.W.keepIn K (.ref f1) = true)
    (a2 : PySem.W.nsIn K mainGlobals "need_number" = some (some (.ref f2))) (l2 : K.lookup f2 = some ⟨oc2, od2, .func (PySem.W.fnOf "need_number" "need_number" (defArgs s_need_number) (defBody s_need_number) (defScope s_need_number) .none kV2 dc2 pm2 an2 cd2 ct2), sl2⟩) (c2 : PySem.W.codeIn K cd2 "need_number" = true) (k2 : PySem.W.keepIn K (.ref f2) = true)
    (a3 : PySem.W.nsIn K mainGlobals "is_rising" = some (some (.ref f3))) (l3 : K.lookup f3 = some ⟨oc3, od3, .func (PySem.W.fnOf "is_rising" "is_rising" (defArgs s_is_rising) (defBody s_is_rising) (defScope s_is_rising) .none kV3 dc3 pm3 an3 cd3 ct3), sl3⟩) (c3 : PySem.W.codeIn K cd3 "is_rising" = true) (k3 : PySem.W.keepIn K (.ref f3) = true)
    (a4 : PySem.W.nsIn K mainGlobals "carry" = some (some (.ref f4))) (l4 : K.lookup f4 = some ⟨oc4, od4, .func (PySem.W.fnOf "carry" "carry" (defArgs s_carry) (defBody s_carry) (defScope s_carry) .none kV4 dc4 pm4 an4 cd4 ct4), sl4⟩) (c4 : PySem.W.codeIn K cd4 "carry" = true) (k4 : PySem.W.keepIn K (.ref f4) = true)
    (a5 : PySem.W.nsIn K mainGlobals "is_row" = some (some (.ref f5))) (l5 : K.lookup f5 = some ⟨oc5, od5, .func (PySem.W.fnOf "is_row" "is_row" (defArgs s_is_row) (defBody s_is_row) (defScope s_is_row) .none kV5 dc5 pm5 an5 cd5 ct5), sl5⟩) (c5 : PySem.W.codeIn K cd5 "is_row" = true) (k5 : PySem.W.keepIn K (.ref f5) = true)
    (a6 : PySem.W.nsIn K mainGlobals "carried" = some (some (.ref f6))) (l6 : K.lookup f6 = some ⟨oc6, od6, .func (PySem.W.fnOf "carried" "carried" (defArgs s_carried) (defBody s_carried) (defScope s_carried) .none kV6 dc6 pm6 an6 cd6 ct6), sl6⟩) (c6 : PySem.W.codeIn K cd6 "carried" = true) (k6 : PySem.W.keepIn K (.ref f6) = true)
    (a7 : PySem.W.nsIn K mainGlobals "is_ball" = some (some (.ref f7))) (l7 : K.lookup f7 = some ⟨oc7, od7, .func (PySem.W.fnOf "is_ball" "is_ball" (defArgs s_is_ball) (defBody s_is_ball) (defScope s_is_ball) .none kV7 dc7 pm7 an7 cd7 ct7), sl7⟩) (c7 : PySem.W.codeIn K cd7 "is_ball" = true) (k7 : PySem.W.keepIn K (.ref f7) = true)
    (a8 : PySem.W.nsIn K mainGlobals "is_motley" = some (some (.ref f8))) (l8 : K.lookup f8 = some ⟨oc8, od8, .func (PySem.W.fnOf "is_motley" "is_motley" (defArgs s_is_motley) (defBody s_is_motley) (defScope s_is_motley) .none kV8 dc8 pm8 an8 cd8 ct8), sl8⟩) (c8 : PySem.W.codeIn K cd8 "is_motley" = true) (k8 : PySem.W.keepIn K (.ref f8) = true)
    (a9 : PySem.W.nsIn K mainGlobals "kind_carried" = some (some (.ref f9))) (l9 : K.lookup f9 = some ⟨oc9, od9, .func (PySem.W.fnOf "kind_carried" "kind_carried" (defArgs s_kind_carried) (defBody s_kind_carried) (defScope s_kind_carried) .none kV9 dc9 pm9 an9 cd9 ct9), sl9⟩) (c9 : PySem.W.codeIn K cd9 "kind_carried" = true) (k9 : PySem.W.keepIn K (.ref f9) = true)
    (a10 : PySem.W.nsIn K mainGlobals "motley_carried" = some (some (.ref f10))) (l10 : K.lookup f10 = some ⟨oc10, od10, .func (PySem.W.fnOf "motley_carried" "motley_carried" (defArgs s_motley_carried) (defBody s_motley_carried) (defScope s_motley_carried) .none kV10 dc10 pm10 an10 cd10 ct10), sl10⟩) (c10 : PySem.W.codeIn K cd10 "motley_carried" = true) (k10 : PySem.W.keepIn K (.ref f10) = true)
    (a11 : PySem.W.nsIn K mainGlobals "turned" = some (some (.ref f11))) (l11 : K.lookup f11 = some ⟨oc11, od11, .func (PySem.W.fnOf "turned" "turned" (defArgs s_turned) (defBody s_turned) (defScope s_turned) .none kV11 dc11 pm11 an11 cd11 ct11), sl11⟩) (c11 : PySem.W.codeIn K cd11 "turned" = true) (k11 : PySem.W.keepIn K (.ref f11) = true)
    (a12 : PySem.W.nsIn K mainGlobals "motley_undone" = some (some (.ref f12))) (l12 : K.lookup f12 = some ⟨oc12, od12, .func (PySem.W.fnOf "motley_undone" "motley_undone" (defArgs s_motley_undone) (defBody s_motley_undone) (defScope s_motley_undone) .none kV12 dc12 pm12 an12 cd12 ct12), sl12⟩) (c12 : PySem.W.codeIn K cd12 "motley_undone" = true) (k12 : PySem.W.keepIn K (.ref f12) = true)
    (a13 : PySem.W.nsIn K mainGlobals "put_in" = some (some (.ref f13))) (l13 : K.lookup f13 = some ⟨oc13, od13, .func (PySem.W.fnOf "put_in" "put_in" (defArgs s_put_in) (defBody s_put_in) (defScope s_put_in) .none kV13 dc13 pm13 an13 cd13 ct13), sl13⟩) (c13 : PySem.W.codeIn K cd13 "put_in" = true) (k13 : PySem.W.keepIn K (.ref f13) = true)
    (a14 : PySem.W.nsIn K mainGlobals "staying" = some (some (.ref f14))) (l14 : K.lookup f14 = some ⟨oc14, od14, .func (PySem.W.fnOf "staying" "staying" (defArgs s_staying) (defBody s_staying) (defScope s_staying) .none kV14 dc14 pm14 an14 cd14 ct14), sl14⟩) (c14 : PySem.W.codeIn K cd14 "staying" = true) (k14 : PySem.W.keepIn K (.ref f14) = true)
    (a15 : PySem.W.nsIn K mainGlobals "_law_cell_at" = some (some (.ref f15))) (l15 : K.lookup f15 = some ⟨oc15, od15, .func (PySem.W.fnOf "_law_cell_at" "_law_cell_at" (defArgs s_L_cell_at) (defBody s_L_cell_at) (defScope s_L_cell_at) .none kV15 dc15 pm15 an15 cd15 ct15), sl15⟩) (c15 : PySem.W.codeIn K cd15 "_law_cell_at" = true) (k15 : PySem.W.keepIn K (.ref f15) = true)
    (a16 : PySem.W.nsIn K mainGlobals "_law_state" = some (some (.ref f16))) (l16 : K.lookup f16 = some ⟨oc16, od16, .func (PySem.W.fnOf "_law_state" "_law_state" (defArgs s_L_state) (defBody s_L_state) (defScope s_L_state) .none kV16 dc16 pm16 an16 cd16 ct16), sl16⟩) (c16 : PySem.W.codeIn K cd16 "_law_state" = true) (k16 : PySem.W.keepIn K (.ref f16) = true)
    (a17 : PySem.W.nsIn K mainGlobals "_law_take" = some (some (.ref f17))) (l17 : K.lookup f17 = some ⟨oc17, od17, .func (PySem.W.fnOf "_law_take" "_law_take" (defArgs s_L_take) (defBody s_L_take) (defScope s_L_take) .none kV17 dc17 pm17 an17 cd17 ct17), sl17⟩) (c17 : PySem.W.codeIn K cd17 "_law_take" = true) (k17 : PySem.W.keepIn K (.ref f17) = true)
    (a18 : PySem.W.nsIn K mainGlobals "_law_row" = some (some (.ref f18))) (l18 : K.lookup f18 = some ⟨oc18, od18, .func (PySem.W.fnOf "_law_row" "_law_row" (defArgs s_L_row) (defBody s_L_row) (defScope s_L_row) .none kV18 dc18 pm18 an18 cd18 ct18), sl18⟩) (c18 : PySem.W.codeIn K cd18 "_law_row" = true) (k18 : PySem.W.keepIn K (.ref f18) = true)
    (a19 : PySem.W.nsIn K mainGlobals "_law_far" = some (some (.ref f19))) (l19 : K.lookup f19 = some ⟨oc19, od19, .func (PySem.W.fnOf "_law_far" "_law_far" (defArgs s_L_far) (defBody s_L_far) (defScope s_L_far) .none kV19 dc19 pm19 an19 cd19 ct19), sl19⟩) (c19 : PySem.W.codeIn K cd19 "_law_far" = true) (k19 : PySem.W.keepIn K (.ref f19) = true)
    (a20 : PySem.W.nsIn K mainGlobals "_law_motley" = some (some (.ref f20))) (l20 : K.lookup f20 = some ⟨oc20, od20, .func (PySem.W.fnOf "_law_motley" "_law_motley" (defArgs s_L_motley) (defBody s_L_motley) (defScope s_L_motley) .none kV20 dc20 pm20 an20 cd20 ct20), sl20⟩) (c20 : PySem.W.codeIn K cd20 "_law_motley" = true) (k20 : PySem.W.keepIn K (.ref f20) = true)
    (a21 : PySem.W.nsIn K mainGlobals "_law_far_motley" = some (some (.ref f21))) (l21 : K.lookup f21 = some ⟨oc21, od21, .func (PySem.W.fnOf "_law_far_motley" "_law_far_motley" (defArgs s_L_far_motley) (defBody s_L_far_motley) (defScope s_L_far_motley) .none kV21 dc21 pm21 an21 cd21 ct21), sl21⟩) (c21 : PySem.W.codeIn K cd21 "_law_far_motley" = true) (k21 : PySem.W.keepIn K (.ref f21) = true)
    (a22 : PySem.W.nsIn K mainGlobals "_law_steps_right" = some (some (.ref f22))) (l22 : K.lookup f22 = some ⟨oc22, od22, .func (PySem.W.fnOf "_law_steps_right" "_law_steps_right" (defArgs s_L_steps_right) (defBody s_L_steps_right) (defScope s_L_steps_right) .none kV22 dc22 pm22 an22 cd22 ct22), sl22⟩) (c22 : PySem.W.codeIn K cd22 "_law_steps_right" = true) (k22 : PySem.W.keepIn K (.ref f22) = true)
    (a23 : PySem.W.nsIn K mainGlobals "law" = some (some (.ref f23))) (l23 : K.lookup f23 = some ⟨oc23, od23, .func (PySem.W.fnOf "law" "law" (defArgs s_law) (defBody s_law) (defScope s_law) .none kV23 dc23 pm23 an23 cd23 ct23), sl23⟩) (c23 : PySem.W.codeIn K cd23 "law" = true) (k23 : PySem.W.keepIn K (.ref f23) = true)
    (n1 : PySem.W.nsIn K mainGlobals "MOST_BALLS" = some (some u1)) (e1 : RelV (.int 12) u1)
    (n2 : PySem.W.nsIn K mainGlobals "FARTHEST" = some (some u2)) (e2 : RelV (.int 1000000000) u2)
    (n3 : PySem.W.nsIn K mainGlobals "KINDS" = some (some u3)) (e3 : RelV (.ref kk) u3) (lk : K.lookup kk = some ⟨.type "tuple", okk, .seq #[.int 1 t1_, .int 2 t2_, .int 3 t3_] nkk, skk⟩)
    (z1 : PySem.W.nsIn K mainGlobals "len" = some none) (z2 : PySem.W.nsIn K mainGlobals "isinstance" = some none) (z3 : PySem.W.nsIn K mainGlobals "bool" = some none) (z4 : PySem.W.nsIn K mainGlobals "int" = some none) (z5 : PySem.W.nsIn K mainGlobals "tuple" = some none) (z6 : PySem.W.nsIn K mainGlobals "list" = some none) (z7 : PySem.W.nsIn K mainGlobals "range" = some none) (z8 : PySem.W.nsIn K mainGlobals "zip" = some none) (z9 : PySem.W.nsIn K mainGlobals "all" = some none) (z10 : PySem.W.nsIn K mainGlobals "max" = some none) (z11 : PySem.W.nsIn K mainGlobals "min" = some none) (z12 : PySem.W.nsIn K mainGlobals "reversed" = some none) (z13 : PySem.W.nsIn K mainGlobals "abs" = some none) (z14 : PySem.W.nsIn K mainGlobals "dict" = some none) (z15 : PySem.W.nsIn K mainGlobals "sorted" = some none) (z16 : PySem.W.nsIn K mainGlobals "enumerate" = some none) :
    ∃ fd : FuncData, (∀ (s : Shared) (v : Value), BindsTo s fd ⟨[v], []⟩ [("_law_script", v)]) ∧ ∀ base : Heap, K.In base → base.Ns mainGlobals mg → FnOk l.prog w K mg base CX0 6 fa fd ["_law_script"] (spLaw K) := by
  have e := hfa.symm.trans (PySem.W.mg_of X G a23)
  cases e
  have F1 := fun_mk (st := s_is_number) l1 c1 k1
  have b1 := F1.binds (ps := ["thing", "least", "greatest"]) fun _ _ _ _ _ _ us hl => match us, hl with | [_, _, _], _ => rfl
  have F2 := fun_mk (st := s_need_number) l2 c2 k2
  have b2 := F2.binds (ps := ["thing", "least", "greatest"]) fun _ _ _ _ _ _ us hl => match us, hl with | [_, _, _], _ => rfl
  have F3 := fun_mk (st := s_is_rising) l3 c3 k3
  have b3 := F3.binds (ps := ["numbers"]) fun _ _ _ _ _ _ us hl => match us, hl with | [_], _ => rfl
  have F4 := fun_mk (st := s_carry) l4 c4 k4
  have b4 := F4.binds (ps := ["row", "size"]) fun _ _ _ _ _ _ us hl => match us, hl with | [_, _], _ => rfl
  have F5 := fun_mk (st := s_is_row) l5 c5 k5
  have b5 := F5.binds (ps := ["thing"]) fun _ _ _ _ _ _ us hl => match us, hl with | [_], _ => rfl
  have F6 := fun_mk (st := s_carried) l6 c6 k6
  have b6 := F6.binds (ps := ["row"]) fun _ _ _ _ _ _ us hl => match us, hl with | [_], _ => rfl
  have F7 := fun_mk (st := s_is_ball) l7 c7 k7
  have b7 := F7.binds (ps := ["thing"]) fun _ _ _ _ _ _ us hl => match us, hl with | [_], _ => rfl
  have F8 := fun_mk (st := s_is_motley) l8 c8 k8
  have b8 := F8.binds (ps := ["thing"]) fun _ _ _ _ _ _ us hl => match us, hl with | [_], _ => rfl
  have F9 := fun_mk (st := s_kind_carried) l9 c9 k9
  have b9 := F9.binds (ps := ["motley", "kind"]) fun _ _ _ _ _ _ us hl => match us, hl with | [_, _], _ => rfl
  have F10 := fun_mk (st := s_motley_carried) l10 c10 k10
  have b10 := F10.binds (ps := ["motley"]) fun _ _ _ _ _ _ us hl => match us, hl with | [_], _ => rfl
  have F11 := fun_mk (st := s_turned) l11 c11 k11
  have b11 := F11.binds (ps := ["motley"]) fun _ _ _ _ _ _ us hl => match us, hl with | [_], _ => rfl
  have F12 := fun_mk (st := s_motley_undone) l12 c12 k12
  have b12 := F12.binds (ps := ["motley"]) fun _ _ _ _ _ _ us hl => match us, hl with | [_], _ => rfl
  have F13 := fun_mk (st := s_put_in) l13 c13 k13
  have b13 := F13.binds (ps := ["lists", "kind"]) fun _ _ _ _ _ _ us hl => match us, hl with | [_, _], _ => rfl
  have F14 := fun_mk (st := s_staying) l14 c14 k14
  have b14 := F14.binds (ps := ["motley"]) fun _ _ _ _ _ _ us hl => match us, hl with | [_], _ => rfl
  have F15 := fun_mk (st := s_L_cell_at) l15 c15 k15
  have b15 := F15.binds (ps := ["_law_script", "_law_k"]) fun _ _ _ _ _ _ us hl => match us, hl with | [_, _], _ => rfl
  have F16 := fun_mk (st := s_L_state) l16 c16 k16
  have b16 := F16.binds (ps := ["_law_script", "_law_k"]) fun _ _ _ _ _ _ us hl => match us, hl with | [_, _], _ => rfl
  have F17 := fun_mk (st := s_L_take) l17 c17 k17
  have b17 := F17.binds (ps := ["_law_state_here", "_law_many"]) fun _ _ _ _ _ _ us hl => match us, hl with | [_, _], _ => rfl
  have F18 := fun_mk (st := s_L_row) l18 c18 k18
  have b18 := F18.binds (ps := ["_law_state_here", "_law_gaps"]) fun _ _ _ _ _ _ us hl => match us, hl with | [_, _], _ => rfl
  have F19 := fun_mk (st := s_L_far) l19 c19 k19
  have b19 := F19.binds (ps := ["_law_state_here", "_law_row_here"]) fun _ _ _ _ _ _ us hl => match us, hl with | [_, _], _ => rfl
  have F20 := fun_mk (st := s_L_motley) l20 c20 k20
  have b20 := F20.binds (ps := ["_law_state_here", "_law_gaps"]) fun _ _ _ _ _ _ us hl => match us, hl with | [_, _], _ => rfl
  have F21 := fun_mk (st := s_L_far_motley) l21 c21 k21
  have b21 := F21.binds (ps := ["_law_state_here", "_law_motley_here"]) fun _ _ _ _ _ _ us hl => match us, hl with | [_, _], _ => rfl
  have F22 := fun_mk (st := s_L_steps_right) l22 c22 k22
  have b22 := F22.binds (ps := ["_law_state_here", "_law_motley_here"]) fun _ _ _ _ _ _ us hl => match us, hl with | [_, _], _ => rfl
  have F23 := fun_mk (st := s_law) l23 c23 k23
  have nb0 : Nb mg := ⟨PySem.W.mg_none_of X G z1, PySem.W.mg_none_of X G z2, PySem.W.mg_none_of X G z3, PySem.W.mg_none_of X G z4, PySem.W.mg_none_of X G z5, PySem.W.mg_none_of X G z6, PySem.W.mg_none_of X G z7, PySem.W.mg_none_of X G z8, PySem.W.mg_none_of X G z9, PySem.W.mg_none_of X G z10, PySem.W.mg_none_of X G z11⟩
  have nb2 : Nb2 mg := ⟨nb0, PySem.W.mg_none_of X G z12, PySem.W.mg_none_of X G z13⟩
  have nb3 : Nb3 mg := ⟨nb2, PySem.W.mg_none_of X G z14, PySem.W.mg_none_of X G z15⟩
  have nbE : NbE mg := ⟨nb3, PySem.W.mg_none_of X G z16⟩
  have c_MOST_BALLS : ∃ u, mg "MOST_BALLS" = some u ∧ RelV (.int 12) u := ⟨u1, PySem.W.mg_of X G n1, e1⟩
  have c_FARTHEST : ∃ u, mg "FARTHEST" = some u ∧ RelV (.int 1000000000) u := ⟨u2, PySem.W.mg_of X G n2, e2⟩
  have hK : ∀ H : Hp, SqT K H kk [.int 1, .int 2, .int 3] := fun H => .inr ⟨_, _, _, lk, rfl, rfl, by show 3 ≤ sizeLine; decide, .cons ⟨_, rfl⟩ (.cons ⟨_, rfl⟩ (.cons ⟨_, rfl⟩ .nil))⟩
  have c_KINDS : ∃ u, mg "KINDS" = some u ∧ RelV (.ref kk) u := ⟨u3, PySem.W.mg_of X G n3, e3⟩
  refine ⟨PySem.W.fnOf "law" "law" (defArgs s_law) (defBody s_law) (defScope s_law) .none kV23 dc23 pm23 an23 cd23 ct23, fun s v => .of_eq rfl, fun base _ _ => ?_⟩
  have h_is_number : Has l.prog w K mg base 1 "is_number" ["thing", "least", "greatest"] spNum := ⟨f1, _, ok_is_number F1 nb0 , PySem.W.mg_of X G a1, k1, b1⟩
  have h_need_number : Has l.prog w K mg base 2 "need_number" ["thing", "least", "greatest"] spNeed := ⟨f2, _, ok_need_number F2 h_is_number, PySem.W.mg_of X G a2, k2, b2⟩
  have h_is_rising : Has l.prog w K mg base 1 "is_rising" ["numbers"] spRise := ⟨f3, _, ok_is_rising F3 nb0 , PySem.W.mg_of X G a3, k3, b3⟩
  have h_carry : Has l.prog w K mg base 1 "carry" ["row", "size"] spCarry := ⟨f4, _, ok_carry F4 nb2 , PySem.W.mg_of X G a4, k4, b4⟩
  have h_is_row : Has l.prog w K mg base 2 "is_row" ["thing"] spIsRow := ⟨f5, _, ok_is_row F5 nb0 h_is_number h_is_rising c_MOST_BALLS c_FARTHEST, PySem.W.mg_of X G a5, k5, b5⟩
  have h_carried : Has l.prog w K mg base 2 "carried" ["row"] spCar := ⟨f6, _, ok_carried F6 nb2 h_carry, PySem.W.mg_of X G a6, k6, b6⟩
  have h_is_ball : Has l.prog w K mg base 2 "is_ball" ["thing"] spBall := ⟨f7, _, ok_is_ball F7 nb0 h_is_number c_KINDS hK, PySem.W.mg_of X G a7, k7, b7⟩
  have h_is_motley : Has l.prog w K mg base 3 "is_motley" ["thing"] spMt := ⟨f8, _, ok_is_motley F8 nb0 h_is_ball h_is_row, PySem.W.mg_of X G a8, k8, b8⟩
  have h_kind_carried : Has l.prog w K mg base 3 "kind_carried" ["motley", "kind"] spKc := ⟨f9, _, ok_kind_carried F9 nb3 h_need_number c_KINDS hK, PySem.W.mg_of X G a9, k9, b9⟩
  have h_motley_carried : Has l.prog w K mg base 4 "motley_carried" ["motley"] spUp := ⟨f10, _, ok_motley_carried F10 nb3 h_kind_carried c_KINDS hK, PySem.W.mg_of X G a10, k10, b10⟩
  have h_turned : Has l.prog w K mg base 1 "turned" ["motley"] (spOf BB.tn) := ⟨f11, _, ok_turned F11 nb3 , PySem.W.mg_of X G a11, k11, b11⟩
  have h_motley_undone : Has l.prog w K mg base 4 "motley_undone" ["motley"] spDn := ⟨f12, _, ok_motley_undone F12 nb3 h_turned h_kind_carried c_KINDS hK, PySem.W.mg_of X G a12, k12, b12⟩
  have h_put_in : Has l.prog w K mg base 1 "put_in" ["lists", "kind"] spPutIn := ⟨f13, _, ok_put_in F13 nbE , PySem.W.mg_of X G a13, k13, b13⟩
  have h_staying : Has l.prog w K mg base 2 "staying" ["motley"] spStay := ⟨f14, _, ok_staying F14 nbE h_put_in, PySem.W.mg_of X G a14, k14, b14⟩
  have h_L_cell_at : Has l.prog w K mg base 1 "_law_cell_at" ["_law_script", "_law_k"] (spCell K) := ⟨f15, _, ok_L_cell_at F15 nb0 , PySem.W.mg_of X G a15, k15, b15⟩
  have h_L_state : Has l.prog w K mg base 2 "_law_state" ["_law_script", "_law_k"] (spState K) := ⟨f16, _, ok_L_state F16 nb0 h_L_cell_at, PySem.W.mg_of X G a16, k16, b16⟩
  have h_L_take : Has l.prog w K mg base 1 "_law_take" ["_law_state_here", "_law_many"] (spTake K) := ⟨f17, _, ok_L_take F17 nb0 , PySem.W.mg_of X G a17, k17, b17⟩
  have h_L_row : Has l.prog w K mg base 2 "_law_row" ["_law_state_here", "_law_gaps"] spRow := ⟨f18, _, ok_L_row F18 nb0 h_L_take, PySem.W.mg_of X G a18, k18, b18⟩
  have h_L_far : Has l.prog w K mg base 2 "_law_far" ["_law_state_here", "_law_row_here"] spFar := ⟨f19, _, ok_L_far F19 nb0 h_L_take, PySem.W.mg_of X G a19, k19, b19⟩
  have h_L_motley : Has l.prog w K mg base 3 "_law_motley" ["_law_state_here", "_law_gaps"] spMot := ⟨f20, _, ok_L_motley F20 nb0 h_L_row h_L_take, PySem.W.mg_of X G a20, k20, b20⟩
  have h_L_far_motley : Has l.prog w K mg base 3 "_law_far_motley" ["_law_state_here", "_law_motley_here"] spFarM := ⟨f21, _, ok_L_far_motley F21 nb0 h_L_far, PySem.W.mg_of X G a21, k21, b21⟩
  have h_L_steps_right : Has l.prog w K mg base 5 "_law_steps_right" ["_law_state_here", "_law_motley_here"] spSr := ⟨f22, _, ok_L_steps_right F22 nbE h_L_take h_motley_carried h_motley_undone h_is_motley h_staying, PySem.W.mg_of X G a22, k22, b22⟩
  exact ok_law F23 nbE h_L_state h_L_take h_L_motley h_L_far_motley h_L_steps_right h_motley_carried h_kind_carried h_carried
theorem walk {l : PySem.W.OpenLaw} {q : Program} {loose : List Str} {XP : (Str → Option Value) → Heap → Prop} {YP : World → Heap → Prop} {d : DefRec} {K : Params → PySem.W.Frag} (hn : l.most = some 63) (hdf : d.params.defaults = [])
    (hY : ∀ (w : World) (h : Heap), YP w h → (K w.params).In h)
    (F : ∀ (w : World) (mg : Str → Option Value) (fa : Addr) (h : Heap), (K w.params).In h → h.Ns mainGlobals mg → mg d.name = some (.ref fa) →
      ∃ fd : FuncData, (∀ (s : Shared) (u : Value), BindsTo s fd ⟨[u], []⟩ [("_law_script", u)]) ∧ ∀ base : Heap, (K w.params).In base → base.Ns mainGlobals mg → FnOk l.prog w (K w.params) mg base CX0 6 fa fd ["_law_script"] (spLaw (K w.params))) :
    PySem.W.WalkO q loose XP YP l.row.toRowW d [] (fun f vs => PySem.call f vs) :=
  L2.walk_of (n := 63) (k := 6) (x := "_law_script") (CX := fun _ => CX0) (sp := fun w => spLaw (K w.params)) hn (by decide) hdf ⟨rfl, by decide, by decide⟩ hY F (fun _ _ a ns hl _ hS => ⟨a, ns, rfl, hS, hl, fun _ => rfl⟩) fun _ _ _ _ _ z => z
end K74
open PySem PySem.W PyProof.Rows
set_option maxRecDepth 100000 in
set_option maxHeartbeats 0 in
theorem PySem.Challenge.cw_boxballs_k74_whole_motley_rows_holds : PySem.Challenge.rw_boxballs_k74_whole_motley_rows.Holds := by
  w_on; o_law; k_head; (case hw => w_witness2)
  k_fill
  refine K74.walk (l := PySem.Challenge.rw_boxballs_k74_whole_motley_rows) rfl rfl (fun w h Y => PySem.W.kIn_of Y) ?F
  case F =>
    intro w mg fa h KX G hmg
    refine' K74.all_mk KX G hmg ?a1 ?l1 ?c1 ?k1 ?a2 ?l2 ?c2 ?k2 ?a3 ?l3 ?c3 ?k3 ?a4 ?l4 ?c4 ?k4 ?a5 ?l5 ?c5 ?k5 ?a6 ?l6 ?c6 ?k6 ?a7 ?l7 ?c7 ?k7 ?a8 ?l8 ?c8 ?k8 ?a9 ?l9 ?c9 ?k9 ?a10 ?l10 ?c10 ?k10 ?a11 ?l11 ?c11 ?k11 ?a12 ?l12 ?c12 ?k12 ?a13 ?l13 ?c13 ?k13 ?a14 ?l14 ?c14 ?k14 ?a15 ?l15 ?c15 ?k15 ?a16 ?l16 ?c16 ?k16 ?a17 ?l17 ?c17 ?k17 ?a18 ?l18 ?c18 ?k18 ?a19 ?l19 ?c19 ?k19 ?a20 ?l20 ?c20 ?k20 ?a21 ?l21 ?c21 ?k21 ?a22 ?l22 ?c22 ?k22 ?a23 ?l23 ?c23 ?k23 ?n1 ?e1 ?n2 ?e2 ?n3 ?e3 ?lk ?z1 ?z2 ?z3 ?z4 ?z5 ?z6 ?z7 ?z8 ?z9 ?z10 ?z11 ?z12 ?z13 ?z14 ?z15 ?z16
    (case a1 => k_is); (case l1 => k_is); (case c1 => k_is); (case k1 => k_is)
    (case a2 => k_is); (case l2 => k_is); (case c2 => k_is); (case k2 => k_is)
    (case a3 => k_is); (case l3 => k_is); (case c3 => k_is); (case k3 => k_is)
    (case a4 => k_is); (case l4 => k_is); (case c4 => k_is); (case k4 => k_is)
    (case a5 => k_is); (case l5 => k_is); (case c5 => k_is); (case k5 => k_is)
    (case a6 => k_is); (case l6 => k_is); (case c6 => k_is); (case k6 => k_is)
    (case a7 => k_is); (case l7 => k_is); (case c7 => k_is); (case k7 => k_is)
    (case a8 => k_is); (case l8 => k_is); (case c8 => k_is); (case k8 => k_is)
    (case a9 => k_is); (case l9 => k_is); (case c9 => k_is); (case k9 => k_is)
    (case a10 => k_is); (case l10 => k_is); (case c10 => k_is); (case k10 => k_is)
    (case a11 => k_is); (case l11 => k_is); (case c11 => k_is); (case k11 => k_is)
    (case a12 => k_is); (case l12 => k_is); (case c12 => k_is); (case k12 => k_is)
    (case a13 => k_is); (case l13 => k_is); (case c13 => k_is); (case k13 => k_is)
    (case a14 => k_is); (case l14 => k_is); (case c14 => k_is); (case k14 => k_is)
    (case a15 => k_is); (case l15 => k_is); (case c15 => k_is); (case k15 => k_is)
    (case a16 => k_is); (case l16 => k_is); (case c16 => k_is); (case k16 => k_is)
    (case a17 => k_is); (case l17 => k_is); (case c17 => k_is); (case k17 => k_is)
    (case a18 => k_is); (case l18 => k_is); (case c18 => k_is); (case k18 => k_is)
    (case a19 => k_is); (case l19 => k_is); (case c19 => k_is); (case k19 => k_is)
    (case a20 => k_is); (case l20 => k_is); (case c20 => k_is); (case k20 => k_is)
    (case a21 => k_is); (case l21 => k_is); (case c21 => k_is); (case k21 => k_is)
    (case a22 => k_is); (case l22 => k_is); (case c22 => k_is); (case k22 => k_is)
    (case a23 => k_is); (case l23 => k_is); (case c23 => k_is); (case k23 => k_is)
    (case n1 => k_is); (case e1 => exact ⟨_, rfl⟩)
    (case n2 => k_is); (case e2 => exact ⟨_, rfl⟩)
    (case n3 => k_is); (case e3 => exact rfl); (case lk => k_is)
    (case z1 => k_is)
    (case z2 => k_is)
    (case z3 => k_is)
    (case z4 => k_is)
    (case z5 => k_is)
    (case z6 => k_is)
    (case z7 => k_is)
    (case z8 => k_is)
    (case z9 => k_is)
    (case z10 => k_is)
    (case z11 => k_is)
    (case z12 => k_is)
    (case z13 => k_is)
    (case z14 => k_is)
    (case z15 => k_is)
    (case z16 => k_is)
