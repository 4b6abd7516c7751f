import PyProof.Rows.All
import Wide.All
import OpenK.AllK
import Wide.FinOn
import Lean
import PyProof.EqAt
import PyProof.EqKinds
import PyProof.TupleCall
import KE.KSortTup
import PyProof.TupleOfGen
import PyProof.ListRange
import PyProof.Rows.ZipGen
import KE.KRevIter
import PyProof.NeKinds
import PyProof.CompUse
import KE.KDictSum
import PyProof.Rows.SortWalk
import PyProof.AttrMissHeap
import KE.KDictOf
import PyProof.StationsW
import PyProof.ExcClass2
import PyProof.ExcBaseAll.ValueError
import OpenK.KOwn
import PyProof.RulesAs
import PyProof.Rows.Catch
import PyProof.ExcAttrAll.ValueError
import KE.KIsAll
import PyProof.NsDelKeeps
import KE.KLam
import KE.KTupSum
import PyProof.SeqI3
import PyProof.Rows.SeqMore
import PyProof.EnumStmt
import PyProof.EnumMake
import PyProof.MinMaxWalk
import PyProof.WalkInts
import PyProof.Rows.CallKwBuiltin
import KE.KRevSl
import PyProof.Rows.SetFrom
import PyProof.AutoSeq1
import PySem.Challenge.RW_boxballs_k34_whole_lengths
local macro_rules | `(tactic| omega) => `(tactic| lia)
section
-- CHANGE: your row's module here, as the last of these rows
set_option Elab.async false
set_option linter.all false
set_option maxRecDepth 100000
/-! THE HAND LAYER, for ints, bools, texts, own classes, LISTS and tuples (index, slices, in, append, pop ..), calls, loops. Paste it whole ahead of your own text; what your proof does not reach may be deleted. -/
namespace L2
open PySem PySem.Spec PyProof.Rows

/-- a key: an int or a str -/
noncomputable abbrev Key := Sum Int Str
noncomputable def keyIs : Key → Value → Bool
  | .inl k, v => Value.isInt k v
  | .inr x, v => Value.isStrOf x v
noncomputable def keyH (w : World) : Key → Int
  | .inl k => hashInt k
  | .inr x => hashStr w x
theorem keyIs_shape : ∀ {k : Key} {v : Value}, keyIs k v = true → (∃ i t, k = Sum.inl i ∧ v = Value.int i t) ∨ (∃ x t, k = Sum.inr x ∧ v = Value.str x t)
  | .inl i, v, h => by
    obtain ⟨t, e⟩ := Value.isInt_shape (k := i) (v := v) h
    exact .inl ⟨i, t, rfl, e⟩
  | .inr x, v, h => by
    obtain ⟨t, e⟩ := Value.isStrOf_shape (x := x) (v := v) h
    exact .inr ⟨x, t, rfl, e⟩
theorem key_ll (a b : Int) : decide ((Sum.inl a : Key) = Sum.inl b) = (a == b) := by
  by_cases e : a = b
  · subst e; simp
  · have h : ¬ (Sum.inl a : Key) = Sum.inl b := fun q => e (Sum.inl.inj q)
    rw [decide_eq_false h]
    exact (beq_eq_false_iff_ne.mpr e).symm
theorem key_rr (a b : Str) : decide ((Sum.inr a : Key) = Sum.inr b) = decide (a = b) := by
  by_cases e : a = b
  · subst e; simp
  · have h : ¬ (Sum.inr a : Key) = Sum.inr b := fun q => e (Sum.inr.inj q)
    rw [decide_eq_false h, decide_eq_false e]
theorem key_lr (a : Int) (b : Str) : decide ((Sum.inl a : Key) = Sum.inr b) = false := decide_eq_false (fun q => nomatch q)
theorem key_rl (a : Str) (b : Int) : decide ((Sum.inr a : Key) = Sum.inl b) = false := decide_eq_false (fun q => nomatch q)

noncomputable def mixKind (prog : Program) (w : World) : PySem.KeyKind prog w Key where
  is := keyIs
  hash := keyH w
  inj := fun v a b ha hb => by
    rcases keyIs_shape ha with ⟨i, t, rfl, rfl⟩ | ⟨x, t, rfl, rfl⟩
    · rcases keyIs_shape hb with ⟨j, u, rfl, e⟩ | ⟨y, u, rfl, e⟩
      · injection e with e1 _; rw [e1]
      · exact nomatch e
    · rcases keyIs_shape hb with ⟨j, u, rfl, e⟩ | ⟨y, u, rfl, e⟩
      · exact nomatch e
      · injection e with e1 _; rw [e1]
  byValue := fun k v h => by
    rcases keyIs_shape h with ⟨i, t, rfl, rfl⟩ | ⟨x, t, rfl, rfl⟩ <;> rfl
  pyHash := fun hv h => by
    rcases keyIs_shape hv with ⟨i, t, rfl, rfl⟩ | ⟨x, t, rfl, rfl⟩
    · exact wpAny_pyHash_int h
    · exact wpAny_pyHash_str h
  eqBool := fun hu hv h => by
    rcases keyIs_shape hu with ⟨i, t, rfl, rfl⟩ | ⟨x, t, rfl, rfl⟩
    · rcases keyIs_shape hv with ⟨j, u, rfl, rfl⟩ | ⟨y, u, rfl, rfl⟩
      · rw [key_ll] at h; exact wpAny_eqBool_int h
      · rw [key_lr] at h; exact SeqAt.EqAt.int_str i t y u _ _ _ _ h
    · rcases keyIs_shape hv with ⟨j, u, rfl, rfl⟩ | ⟨y, u, rfl, rfl⟩
      · rw [key_rl] at h; exact SeqAt.EqAt.str_int x t j u _ _ _ _ h
      · rw [key_rr] at h; exact wpAny_eqBool_str h
  «strs» := fun k x t v h => by
    rcases keyIs_shape h with ⟨i, u, rfl, e⟩ | ⟨y, u, rfl, e⟩
    · exact nomatch e
    · injection e with e1 _
      subst e1
      cases v <;> rfl

end L2

namespace L2
open PySem PySem.Spec PyProof.Rows

/-- a value, without the heap -/
inductive V where
  | non | bl (b : Bool) | int (i : Int) | str (x : Str) | byt (b : Array UInt8) | flt (b : UInt64) | ref (a : Addr) | ty (n : String)
  deriving DecidableEq

noncomputable def RelV : V → Value → Prop
  | .non, u => u = Value.none
  | .bl b, u => u = Value.bool b
  | .int i, u => ∃ t, u = Value.int i t
  | .str x, u => ∃ t, u = Value.str x t
  | .byt b, u => ∃ t, u = Value.bytes b t
  | .flt b, u => ∃ t, u = Value.float b t
  | .ref a, u => u = Value.ref a
  | .ty n, u => u = Value.type n

noncomputable abbrev Vals : List V → List Value → Prop := Paired RelV
theorem Vals.length {xs : List V} {us : List Value} (r : Vals xs us) : xs.length = us.length := Paired.length r
theorem Vals.get : ∀ {xs : List V} {us : List Value} {i : Nat} {x : V}, Vals xs us → xs[i]? = some x → ∃ u, us[i]? = some u ∧ RelV x u
  | _, _, _, _, .nil, e => by simp at e
  | _, _, 0, _, .cons r _, e => by simp at e; subst e; exact ⟨_, rfl, r⟩
  | _, _, i + 1, x, .cons _ t, e => by
    obtain ⟨u, h1, h2⟩ := Vals.get (i := i) (x := x) t (by simpa using e)
    exact ⟨u, by simpa using h1, h2⟩
theorem Vals.set {x : V} {u : Value} (r : RelV x u) : ∀ {xs : List V} {us : List Value} (i : Nat), Vals xs us → Vals (xs.set i x) (us.set i u)
  | _, _, _, .nil => .nil
  | _, _, 0, .cons _ t => .cons r t
  | _, _, i + 1, .cons q t => .cons q (Vals.set r i t)
theorem Vals.append : ∀ {xs ys : List V} {us ws : List Value}, Vals xs us → Vals ys ws → Vals (xs ++ ys) (us ++ ws)
  | _, _, _, _, .nil, s => s
  | _, _, _, _, .cons r t, s => .cons r (Vals.append t s)
theorem Vals.take : ∀ {xs : List V} {us : List Value} (n : Nat), Vals xs us → Vals (xs.take n) (us.take n)
  | _, _, 0, _ => .nil
  | _, _, _ + 1, .nil => .nil
  | _, _, n + 1, .cons r t => .cons r (Vals.take n t)
theorem Vals.drop : ∀ {xs : List V} {us : List Value} (n : Nat), Vals xs us → Vals (xs.drop n) (us.drop n)
  | _, _, 0, r => r
  | _, _, _ + 1, .nil => .nil
  | _, _, n + 1, .cons _ t => Vals.drop n t
theorem Vals.none_of : ∀ {xs : List V} {us : List Value} {i : Nat}, Vals xs us → xs[i]? = none → us[i]? = none := fun {xs us i} r e => by
  have h1 := r.length
  have h2 : xs.length ≤ i := List.getElem?_eq_none_iff.mp e
  exact List.getElem?_eq_none_iff.mpr (by omega)

noncomputable def RelO : Option V → Option Value → Prop
  | some v, some u => RelV v u
  | none, none => True
  | _, _ => False
noncomputable def KV {κ : Type} : List (κ × V) → List (κ × Value) → Prop := Paired fun (p : κ × V) (q : κ × Value) => p.1 = q.1 ∧ RelV p.2 q.2

/-- a key of a dict (00_mix): an int or a text -/
noncomputable def kV : Key → V
  | .inl i => .int i
  | .inr x => .str x

/-- what stands at a tracked address -/
inductive HO where
  /-- a list -/
  | lst (xs : List V)
  /-- a tuple (never changes) -/
  | tup (xs : List V)
  /-- a dict whose keys are ints and texts; one whose keys are tuples of ints and texts (the empty one is both) -/
  | dK (kvs : List (Key × V)) | dT (kvs : List (List Key × V))
  /-- a set of ints: its members, its size -/
  | set (S : Int → Bool) (n : Nat)
  /-- an instance of the class at C, its dict at dx, its attributes -/
  | ins (C dx : Addr) (fs : List (Str × V))
  /-- the dict of the instance at x -/
  | own (x : Addr)
  /-- the dict of an exception -/
  | xd (fs : List (Str × V))
  /-- a bound method, f of x -/
  | met (f x : Addr)
  /-- a range object lo, lo + 1, .. below hi -/
  | rng (lo hi : Int)
  /-- a thing that is known to the object (the script; a dict while a loop walks it): read, never written while it is so -/
  | frz (o : Obj) (u : HO)
  /-- a code object's table -/
  | tbl (ps : Array Value)
  /-- any other thing, by what is true of its one object (a def of one's own: SetO a S n := HO.ext fun h => ..) -/
  | ext (φ : Heap → Prop)

noncomputable abbrev Hp := Addr → Option HO
noncomputable def upd (H : Hp) (a : Addr) (o : HO) : Hp := fun b => if b = a then some o else H b
theorem upd_same {H : Hp} {a : Addr} {o : HO} : upd H a o a = some o := by unfold upd; rw [if_pos rfl]
theorem upd_ne {H : Hp} {a b : Addr} {o : HO} (h : b ≠ a) : upd H a o b = H b := by unfold upd; rw [if_neg h]
/-- two objects of different content stand apart -/
theorem ne_of {H : Hp} {a b : Addr} {o u : HO} (h : H a = some o) (h' : H b = some u) (d : o ≠ u) : a ≠ b := by
  intro e; subst e; rw [h] at h'; exact d (Option.some.inj h')
theorem ne_of_none {H : Hp} {a b : Addr} {o : HO} (h : H a = some o) (h' : H b = none) : a ≠ b := by
  intro e; subst e; rw [h] at h'; cases h'

section
variable (P : Program) (w : World)
noncomputable def ObjOk (H : Hp) (h : Heap) (a : Addr) : HO → Prop
  | .lst xs => xs.length ≤ sizeLine ∧ ∃ (its : List Value) (n : Nat), Vals xs its ∧ h.get? a = some { cls := .type "list", data := .seq its.toArray n }
  | .tup xs => xs.length ≤ sizeLine ∧ ∃ its : List Value, Vals xs its ∧ IsTup h a its.toArray
  | .dK kvs => kvs.length ≤ sizeLine ∧ (a == sysModules) = false ∧ ∃ vs, KV kvs vs ∧ h.DictOf (mixKind P w) a vs
  | .dT kvs => kvs.length ≤ sizeLine ∧ (a == sysModules) = false ∧ ∃ xs : List (List Key × Addr × Value),
      Paired (fun (p : List Key × V) (q : List Key × Addr × Value) => p.1 = q.1 ∧ H q.2.1 = some (.tup (p.1.map kV)) ∧ RelV p.2 q.2.2) kvs xs ∧
      ∃ o es ep, h.get? a = some o ∧ o.ExactDict ∧ o.data = .dict es ep ∧ es.toList = xs.map (entryOfKey (tupleKind (mixKind P w))) ∧ (xs.map (·.1)).Nodup
  | .set S n => h.SetOf (intKind P w) a S n
  | .ins C dx fs => H dx = some (.own a) ∧ fs.length ≤ 1000 ∧ dx ≠ a ∧ h.get? a = some (PySem.W.instObj C dx) ∧
      ∃ mA, h.Ns1 dx mA ∧ (∀ f, RelO (fs.lookup f) (mA f)) ∧ PySem.Within mA (fs.map (·.1))
  | .own _ => ∃ o, h.get? a = some o
  | .xd fs => ∃ mA, h.Ns1 a mA ∧ ∀ f, RelO (fs.lookup f) (mA f)
  | .rng lo hi => ∃ t u v, h.get? a = some { cls := .type "range", data := .fields #[.int lo t, .int hi u, .int 1 v] }
  | .frz o u => h.get? a = some o ∧ ObjOk H h a u
  | .tbl ps => h.get? a = some { cls := .none, data := .fields ps }
  | .met f x => h.get? a = some (PySem.W.methodObj (.ref f) (.ref x))
  | .ext φ => φ h ∧ (∃ o, h.get? a = some o) ∧ ∀ h1 h2 : Heap, φ h1 → (∀ o, h1.get? a = some o → h2.get? a = some o) → φ h2
/-- the abstract heap is held -/
noncomputable def HOk (H : Hp) (h : Heap) : Prop := ∀ a o, H a = some o → ObjOk P w H h a o
end

section
variable {P : Program} {w : World} {H H' : Hp} {h h' : Heap} {a : Addr} {o : HO}
theorem ObjOk.lt (x : ObjOk P w H h a o) : a < h.objs.size := by
  cases o with
  | lst xs => obtain ⟨_, _, _, _, e⟩ := x; exact Heap.lt_size e
  | tup xs => obtain ⟨_, _, _, p⟩ := x; exact p.lt
  | dK kvs => obtain ⟨_, _, _, _, o, _, _, e, _⟩ := x; exact Heap.lt_size e
  | dT kvs => obtain ⟨_, _, _, _, o, _, _, e, _⟩ := x; exact Heap.lt_size e
  | set S n => obtain ⟨o, _, _, _, e, _⟩ := x; exact Heap.lt_size e
  | ins C dx fs => obtain ⟨_, _, _, e, _⟩ := x; exact Heap.lt_size e
  | own y => obtain ⟨_, e⟩ := x; exact Heap.lt_size e
  | xd fs => obtain ⟨_, ⟨_, _, _, e, _⟩, _⟩ := x; exact Heap.lt_size e
  | rng lo hi => obtain ⟨_, _, _, e⟩ := x; exact Heap.lt_size e
  | frz ob u => obtain ⟨e, _⟩ := x; exact Heap.lt_size e
  | tbl ps => exact Heap.lt_size (show h.get? a = some _ from x)
  | met f y => exact Heap.lt_size (show h.get? a = some _ from x)
  | ext φ => obtain ⟨_, ⟨_, e⟩, _⟩ := x; exact Heap.lt_size e
theorem Paired.mapP {α β : Type} {F G : α → β → Prop} : ∀ {l₁ : List α} {l₂ : List β}, Paired F l₁ l₂ → (∀ a b, F a b → G a b) → Paired G l₁ l₂
  | _, _, .nil, _ => .nil
  | _, _, .cons r t, f => .cons (f _ _ r) (Paired.mapP t f)
/-- what an object's description leans on: its own object, its own dict, the tuples -/
theorem ObjOk.stay (x : ObjOk P w H h a o) (k : ∀ b u, (b = a ∨ H b = some (.own a)) → h.get? b = some u → h'.get? b = some u)
    (ho : ∀ b, H b = some (.own a) → H' b = some (.own a)) (ht : ∀ b xs, H b = some (.tup xs) → H' b = some (.tup xs)) : ObjOk P w H' h' a o := by
  induction o with
  | lst xs => obtain ⟨z, its, n, r, e⟩ := x; exact ⟨z, its, n, r, k _ _ (.inl rfl) e⟩
  | tup xs => obtain ⟨z, its, r, ob, e, c⟩ := x; exact ⟨z, its, r, ob, k _ _ (.inl rfl) e, c⟩
  | dK kvs => obtain ⟨z, y, vs, r, ob, es, ep, e, c⟩ := x; exact ⟨z, y, vs, r, ob, es, ep, k _ _ (.inl rfl) e, c⟩
  | dT kvs =>
    obtain ⟨z, y, xs, r, ob, es, ep, e, c⟩ := x
    exact ⟨z, y, xs, Paired.mapP r fun p q z => ⟨z.1, ht _ _ z.2.1, z.2.2⟩, ob, es, ep, k _ _ (.inl rfl) e, c⟩
  | set S n => obtain ⟨ob, es, ep, t, e, c⟩ := x; exact ⟨ob, es, ep, t, k _ _ (.inl rfl) e, c⟩
  | ins C dx fs =>
    obtain ⟨d, z, ne, e, mA, ⟨od, es, ep, e2, c⟩, r⟩ := x
    exact ⟨ho _ d, z, ne, k _ _ (.inl rfl) e, mA, ⟨od, es, ep, k _ _ (.inr d) e2, c⟩, r⟩
  | own y => obtain ⟨ob, e⟩ := x; exact ⟨ob, k _ _ (.inl rfl) e⟩
  | xd fs => obtain ⟨mA, ⟨od, es, ep, e, c⟩, r⟩ := x; exact ⟨mA, ⟨od, es, ep, k _ _ (.inl rfl) e, c⟩, r⟩
  | rng lo hi => obtain ⟨t, u, v, e⟩ := x; exact ⟨t, u, v, k _ _ (.inl rfl) e⟩
  | frz ob u ih => obtain ⟨e, q⟩ := x; exact ⟨k _ _ (.inl rfl) e, ih q⟩
  | tbl ps =>
    have e : h.get? a = some { cls := .none, data := .fields ps } := x
    show h'.get? a = some { cls := .none, data := .fields ps }
    exact k a _ (.inl rfl) e
  | met f y =>
    have e : h.get? a = some (PySem.W.methodObj (.ref f) (.ref y)) := x
    show h'.get? a = some (PySem.W.methodObj (.ref f) (.ref y))
    exact k a _ (.inl rfl) e
  | ext φ => obtain ⟨p, ⟨o, e⟩, st⟩ := x; exact ⟨st _ _ p fun o q => k _ _ (.inl rfl) q, ⟨o, k _ _ (.inl rfl) e⟩, st⟩
theorem HOk.lt (x : HOk P w H h) (e : H a = some o) : a < h.objs.size := (x a o e).lt
theorem HOk.fresh (x : HOk P w H h) (e : h.objs.size ≤ a) : H a = none := by
  cases q : H a with
  | none => rfl
  | some u => exact absurd (Nat.lt_of_lt_of_le (x.lt q) e) (Nat.lt_irrefl _)
/-- every object of the heap is kept -/
theorem HOk.kept (x : HOk P w H h) (k : ∀ b u, h.get? b = some u → h'.get? b = some u) : HOk P w H h' := fun a o e =>
  (x a o e).stay (fun b u _ q => k b u q) (fun _ q => q) fun _ _ q => q
/-- a new object is laid and tracked -/
theorem HOk.laid (x : HOk P w H h) (k : ∀ b u, h.get? b = some u → h'.get? b = some u) (hp : h.objs.size ≤ a) (new : ObjOk P w (upd H a o) h' a o) : HOk P w (upd H a o) h' := fun b u e => by
  have hn := x.fresh hp
  by_cases hb : b = a
  · subst hb; rw [upd_same] at e; cases e; exact new
  · rw [upd_ne hb] at e
    exact (x b u e).stay (fun c v _ q => k c v q) (fun c q => by rw [upd_ne (ne_of_none q hn)]; exact q) fun c xs q => by rw [upd_ne (ne_of_none q hn)]; exact q
end

/-- what may be read as u: it is u, or a known u -/
noncomputable def Rd (H : Hp) (a : Addr) (u : HO) : Prop := H a = some u ∨ ∃ o, H a = some (.frz o u)
theorem Rd.ok {P : Program} {w : World} {H : Hp} {h : Heap} {a : Addr} {u : HO} (r : Rd H a u) (x : HOk P w H h) : ObjOk P w H h a u := by
  rcases r with r | ⟨o, r⟩
  · exact x a u r
  · obtain ⟨_, q⟩ := x a _ r
    exact q
/-- what may be written -/
noncomputable def Mut : Option HO → Prop
  | some (.lst _) => True
  | some (.dK _) => True
  | some (.dT _) => True
  | some (.set _ _) => True
  | some (.ins _ _ _) => True
  | some (.ext _) => True
  | _ => False
section
variable {P : Program} {w : World} {H : Hp} {h h' : Heap} {x e : Addr} {o' : HO}
/-- the object at e is changed: x itself, or the dict of the instance x -/
theorem HOk.write (ok : HOk P w H h) (mu : Mut (H x)) (he : e = x ∨ H e = some (.own x)) (k : ∀ b u, b ≠ e → h.get? b = some u → h'.get? b = some u) (heo : ∃ u, h'.get? e = some u)
    (new : ObjOk P w (upd H x o') h' x o') : HOk P w (upd H x o') h' := fun b u q => by
  have nown : ∀ c y, H c = some (.own y) → c ≠ x := fun c y r z => by subst z; rw [r] at mu; exact mu
  have ntup : ∀ c xs, H c = some (.tup xs) → c ≠ x := fun c xs r z => by subst z; rw [r] at mu; exact mu
  by_cases hb : b = x
  · subst hb; rw [upd_same] at q; cases q; exact new
  · rw [upd_ne hb] at q
    by_cases hbe : b = e
    · have q' : H b = some (.own x) := by
        rcases he with z | z
        · exact absurd (hbe.trans z) hb
        · rw [hbe]; exact z
      rw [q] at q'; cases q'
      obtain ⟨v, hv⟩ := heo
      exact ⟨v, by rw [hbe]; exact hv⟩
    · refine (ok b u q).stay (fun c v hc r => k c v ?_ r) (fun c r => by rw [upd_ne (nown c b r)]; exact r) fun c xs r => by rw [upd_ne (ntup c xs r)]; exact r
      rcases hc with rfl | hc
      · exact hbe
      · rintro rfl
        rcases he with z | z
        · exact nown c b hc z
        · rw [hc] at z; cases z; exact hb rfl
end

/-! ### kept unless tracked; of the frames at fs (the callers') the slots may change (an exception that passes writes there); of the records at ex (iterators) nothing is said -/
structure Un (fs ex : List Addr) (H H' : Hp) (h h' : Heap) : Prop where
  keep : ∀ b o, h.get? b = some o → H b = none → b ∉ fs → b ∉ ex → h'.get? b = some o
  slot : ∀ b o, h.get? b = some o → H b = none → b ∈ fs → b ∉ ex → ∃ sl, h'.get? b = some { o with slots := sl }
  free : ∀ b o, h.get? b = some o → H b = none → b ∉ ex → H' b = none
  there : ∀ b o, h.get? b = some o → b ∉ ex → ∃ o', h'.get? b = some o'
  tups : ∀ b xs, H b = some (.tup xs) → H' b = some (.tup xs)
  frzs : ∀ b o u, H b = some (.frz o u) → H' b = some (.frz o u)
  tbls : ∀ b ps, H b = some (.tbl ps) → ∃ more, H' b = some (.tbl (ps ++ more))
section
variable {fs fs' ex ex' : List Addr} {H H1 H2 : Hp} {h h1 h2 h' : Heap} {a x e : Addr} {o : HO}
theorem Un.any (u : Un fs ex H H1 h h1) {b : Addr} {ob : Obj} (q : h.get? b = some ob) (n : H b = none) (hx : b ∉ ex) : ∃ sl, h1.get? b = some { ob with slots := sl } := by
  by_cases hb : b ∈ fs
  · exact u.slot b ob q n hb hx
  · exact ⟨ob.slots, u.keep b ob q n hb hx⟩
theorem Un.kept (k : ∀ b u, h.get? b = some u → h'.get? b = some u) : Un fs ex H H h h' :=
  ⟨fun b ob q _ _ _ => k b ob q, fun b ob q _ _ _ => ⟨ob.slots, k b ob q⟩, fun _ _ _ n _ => n, fun b ob q _ => ⟨ob, k b ob q⟩, fun _ _ q => q, fun _ _ _ q => q, fun _ ps q => ⟨#[], by rw [q]; simp⟩⟩
theorem Un.refl : Un fs ex H H h h := Un.kept fun _ _ q => q
theorem Un.laid (k : ∀ b u, h.get? b = some u → h'.get? b = some u) (hp : h.objs.size ≤ a) (hn : H a = none) : Un fs ex H (upd H a o) h h' where
  keep := fun b u q _ _ _ => k b u q
  slot := fun b u q _ _ _ => ⟨u.slots, k b u q⟩
  free := fun b u q n _ => by rw [upd_ne (Nat.ne_of_lt (Nat.lt_of_lt_of_le (Heap.lt_size q) hp))]; exact n
  there := fun b u q _ => ⟨u, k b u q⟩
  tups := fun b xs q => by rw [upd_ne (ne_of_none q hn)]; exact q
  frzs := fun b u xs q => by rw [upd_ne (ne_of_none q hn)]; exact q
  tbls := fun b ps q => ⟨#[], by rw [upd_ne (ne_of_none q hn), q]; simp⟩
theorem Un.write (mu : Mut (H x)) (he : e = x ∨ H e = some (.own x)) (k : ∀ b u, b ≠ e → h.get? b = some u → h'.get? b = some u) (heo : ∃ u, h'.get? e = some u) : Un fs ex H (upd H x o) h h' := by
  have hx : ∀ b, H b = none → b ≠ x := fun b n z => by subst z; rw [n] at mu; exact mu
  have hb : ∀ b, H b = none → b ≠ e := fun b n z => by
    subst z
    rcases he with r | r
    · exact hx b n r
    · rw [n] at r; cases r
  have hm : ∀ b u, H b = some u → ¬ Mut (some u) → b ≠ x := fun b u q nm z => by subst z; rw [q] at mu; exact nm mu
  refine ⟨fun b u q n _ _ => k b u (hb b n) q, fun b u q n _ _ => ⟨u.slots, k b u (hb b n) q⟩, fun b u q n _ => by rw [upd_ne (hx b n)]; exact n, fun b u q _ => ?_,
    fun b xs q => by rw [upd_ne (hm b _ q fun z => z)]; exact q, fun b u xs q => by rw [upd_ne (hm b _ q fun z => z)]; exact q, fun b ps q => ⟨#[], by rw [upd_ne (hm b _ q fun z => z), q]; simp⟩⟩
  by_cases hbe : b = e
  · subst hbe; exact heo
  · exact ⟨u, k b u hbe q⟩
end

/-! ### the heap without what is tracked -/
noncomputable def trk (h : Heap) (H : Hp) : List Addr := (List.range h.objs.size).filter fun a => (H a).isSome
noncomputable def hidT (h : Heap) (H : Hp) : Heap := PySem.W.hideAll h (trk h H)
theorem hidT_size (h : Heap) (H : Hp) : (hidT h H).objs.size = h.objs.size := PySem.W.hideAll_size _ _
theorem hidT_get {h : Heap} {H : Hp} {b : Addr} {o : Obj} (e : h.get? b = some o) (n : H b = none) : (hidT h H).get? b = some o :=
  PySem.W.hideAll_get _ e fun hm => by
    have q : (H b).isSome = true := (List.mem_filter.mp hm).2
    rw [n] at q; simp at q
theorem of_hidT {h : Heap} {H : Hp} {b : Addr} {o : Obj} (e : (hidT h H).get? b = some o) : h.get? b = some o ∧ H b = none := by
  have e' : h.get? b = some o := PySem.W.of_hideAll (trk h H) e
  refine ⟨e', ?_⟩
  cases q : H b with
  | none => rfl
  | some x =>
    have hm : b ∈ trk h H := List.mem_filter.mpr ⟨List.mem_range.mpr (Heap.lt_size e'), by simp [q]⟩
    have z : (hidT h H).get? b = none := PySem.W.hideAll_none (trk h H) hm
    rw [z] at e; cases e

/-! ### OpenK's ledger, filled with every new object but one -/
noncomputable def allNews (g h : Heap) (L : Addr) : List (Addr × Obj) := (List.range h.objs.size).filterMap fun a => if a = L ∨ (g.get? a).isSome = true then none else (h.get? a).map fun o => (a, o)
noncomputable def rest (g h : Heap) (L d : Addr) : List (Addr × Obj) := (allNews g h L).filter fun p => decide (p.1 ≠ d)
end L2

namespace L2
open PySem PySem.Spec PyProof.Rows

/-- the module's facts, over the base: the heap at the law's entry without what is tracked there -/
structure Mod (K : PySem.W.Frag) (mg : Str → Option Value) (base : Heap) : Prop where
  kin : K.In base
  glob : base.Ns mainGlobals mg
  blt : ∃ mb, base.Ns builtinsNs mb ∧ ∀ x : Str, x ≠ "__name__" → mb x = bootBuiltins x
  nolimit : base.NoLimit

/-- the context: a def's body (or a comprehension's block) running. base: fixed through the whole law; s₀, H₀: the entry; outer: the frames whose slots others may change (a def's callers); stack: all frames that run;
   ex: iterators that were made ahead of the entry and are walked here (a comprehension's); fn: the names whose cells were made at the entry (a def: all; a comprehension's block: its own); calm: not within an except suite; pn: pins that every state bears; xe: what is wanted of an exception that leaves the code -/
structure Cx where
  prog : Program
  w : World
  K : PySem.W.Frag
  mg : Str → Option Value
  base : Heap
  A : Around
  N : List Str
  s₀ : Shared
  H₀ : Hp
  env : Env
  outer : List Env
  stack : List Env
  ex : List Addr
  fn : Str → Bool
  calm : Bool
  pn : List (Addr × Obj)
  xe : Value → Shared → Prop
/-- the callers' frames -/
noncomputable def frs (l : List Env) : List Addr := l.filterMap (·.frame)
noncomputable abbrev Cx.fs (X : Cx) : List Addr := frs X.outer

noncomputable def Vis (sc : Scope) (x : Str) : Prop := sc.names.lookup x = some .local ∨ sc.names.lookup x = some .cell ∨ sc.names.lookup x = some .free
noncomputable def Loc (sc : Scope) (x : Str) : Prop := sc.names.lookup x = some .local ∨ sc.names.lookup x = some .cell
noncomputable def Look (env : Env) (h : Heap) (m : Str → Option Value) (x : Str) (u : Value) : Prop :=
  (env.kindOf x = some .local ∧ m x = some u) ∨ ((env.kindOf x = some .cell ∨ env.kindOf x = some .free) ∧ ∃ c, env.cells.lookup x = some c ∧ h.IsCell c (some u))

structure Cx.Ok (X : Cx) : Prop where
  mod : Mod X.K X.mg X.base
  kind : X.env.scope.kind = .function
  glob : X.env.globals = mainGlobals
  blt : X.env.builtins = builtinsNs
  above : X.s₀.heap.objs.size ≤ X.env.locals
  inj : ∀ x y c, X.env.cells.lookup x = some c → X.env.cells.lookup y = some c → x = y
  has : ∀ x, (X.env.kindOf x = some .cell ∨ X.env.kindOf x = some .free) → ∃ c, X.env.cells.lookup x = some c
  cab : ∀ x c, X.fn x = true → X.env.cells.lookup x = some c → X.s₀.heap.objs.size ≤ c
  hd : X.calm = true → X.A.handled = none
  frames : X.A.frames = some X.stack
  stk : X.stack = X.outer ∨ (X.stack = X.env :: X.outer ∧ X.env.frame = some X.env.locals)
  exf : ∀ b ∈ X.ex, b ≠ X.env.locals ∧ ∀ x c, X.env.cells.lookup x = some c → c ≠ b
  bs : ∀ b o, X.base.get? b = some o → X.s₀.heap.get? b = some o ∧ X.H₀ b = none
  bsz : X.base.objs.size ≤ X.s₀.heap.objs.size
  noex : ∀ b o, X.base.get? b = some o → b ∉ X.ex
  exfs : ∀ b ∈ X.ex, b ∉ X.fs
  funs : X.s₀.heap.FunFrames X.base X.outer
  frf : ∀ b ∈ X.fs, X.H₀ b = none

structure Inv (X : Cx) (pins : List (Addr × Obj)) (σ : List (Option V)) (H : Hp) (s : Shared) : Prop where
  ok : X.Ok
  os : s.os = X.s₀.os
  bare : AllBare s.gens
  base : Un X.fs X.ex X.H₀ H X.s₀.heap s.heap
  loc : ∃ m, s.heap.Ns X.env.locals m ∧ ∀ (i : Nat) (x : Str) (v : V), X.N[i]? = some x → σ[i]? = some (some v) → Vis X.env.scope x → ∃ u, RelV v u ∧ Look X.env s.heap m x u
  cell : ∀ x c, X.env.cells.lookup x = some c → ∃ v, s.heap.IsCell c v
  free : H X.env.locals = none
  freeC : ∀ x c, X.env.cells.lookup x = some c → H c = none
  pin : ∀ p ∈ X.pn ++ pins, s.heap.get? p.1 = some p.2 ∧ H p.1 = none ∧ p.1 ≠ X.env.locals ∧ p.1 ∉ X.fs ∧ ∀ v, p.2.data ≠ .cell v
  hok : HOk X.prog X.w H s.heap
  len : σ.length = X.N.length

section
variable {X : Cx} {pins : List (Addr × Obj)} {σ : List (Option V)} {H H' : Hp} {s : Shared} {h' : Heap}

theorem Cx.Ok.nofr (ok : X.Ok) {b : Addr} {o : Obj} (e : X.base.get? b = some o) : b ∉ X.fs := fun hb => by
  have := (ok.funs.mem hb).1
  rw [e] at this; cases this
theorem Inv.bs (I : Inv X pins σ H s) : ∀ b o, X.base.get? b = some o → s.heap.get? b = some o ∧ H b = none := fun b o e =>
  ⟨I.base.keep b o (I.ok.bs b o e).1 (I.ok.bs b o e).2 (I.ok.nofr e) (I.ok.noex b o e), I.base.free b o (I.ok.bs b o e).1 (I.ok.bs b o e).2 (I.ok.noex b o e)⟩
theorem Inv.bk (I : Inv X pins σ H s) : ∀ b o, X.base.get? b = some o → s.heap.get? b = some o := fun b o e => (I.bs b o e).1
theorem Inv.mod (I : Inv X pins σ H s) : Mod X.K X.mg X.base := I.ok.mod
theorem Inv.kIn (I : Inv X pins σ H s) : X.K.In s.heap := I.ok.mod.kin.keeps I.bk
theorem Inv.lt (I : Inv X pins σ H s) : X.env.locals < s.heap.objs.size := let ⟨_, hn, _⟩ := I.loc; hn.lt
theorem Inv.sz (I : Inv X pins σ H s) : X.s₀.heap.objs.size ≤ s.heap.objs.size := Nat.le_trans I.ok.above (Nat.le_of_lt I.lt)
theorem Inv.nofs (I : Inv X pins σ H s) {a : Addr} (h : s.heap.objs.size ≤ a) : a ∉ X.fs := fun hb => by
  obtain ⟨_, o, ho, _⟩ := I.ok.funs.mem hb
  exact absurd (Nat.lt_of_lt_of_le (Heap.lt_size ho) (Nat.le_trans I.sz h)) (Nat.lt_irrefl _)
theorem Inv.cne (I : Inv X pins σ H s) : ∀ x c, X.env.cells.lookup x = some c → c ≠ X.env.locals := fun x c e z => by
  obtain ⟨v, o, ho, hd⟩ := I.cell x c e
  obtain ⟨m, ⟨o', es, ep, ho', hd', _⟩, _⟩ := I.loc
  rw [z, ho'] at ho; cases ho; rw [hd'] at hd; cases hd
theorem Inv.funs (I : Inv X pins σ H s) : s.heap.FunFrames X.base X.outer := by
  have all : ∀ (l : List Env), (∀ b ∈ frs l, b ∈ X.fs) → X.s₀.heap.FunFrames X.base l → s.heap.FunFrames X.base l := by
    intro l
    induction l with
    | nil => intro _ _; trivial
    | cons env r ih =>
      intro hs hl
      obtain ⟨hk, ⟨L, o, hf, hn, ho, hd⟩, hr⟩ := hl
      have hL : L ∈ X.fs := hs L (by unfold frs; rw [List.filterMap_cons, hf]; exact List.mem_cons_self)
      obtain ⟨sl, e⟩ := I.base.slot L o ho (I.ok.frf L hL) hL fun z => I.ok.exfs L z hL
      exact ⟨hk, ⟨L, _, hf, hn, e, hd⟩, ih (fun b hb => hs b (by unfold frs; rw [List.filterMap_cons, hf]; exact List.mem_cons_of_mem _ hb)) hr⟩
  exact all X.outer (fun _ hb => hb) I.ok.funs

/-- the frames that run, for a call -/
theorem Inv.stack (I : Inv X pins σ H s) : s.heap.FunFrames X.base X.stack := by
  rcases I.ok.stk with e | ⟨e, hf⟩
  · rw [e]; exact I.funs
  · rw [e]
    obtain ⟨m, hn, _⟩ := I.loc
    refine .cons (by rw [I.ok.kind]; decide) hf hn ?_ I.funs
    exact Heap.get?_none_of_le (Nat.le_trans I.ok.bsz I.ok.above)
theorem Inv.stkSub (I : Inv X pins σ H s) : ∀ b ∈ frs X.stack, b ∈ X.env.locals :: X.fs := fun b hb => by
  rcases I.ok.stk with e | ⟨e, hf⟩
  · rw [e] at hb; exact List.mem_cons_of_mem _ hb
  · rw [e] at hb
    unfold frs at hb
    rw [List.filterMap_cons, hf] at hb
    exact hb
theorem Inv.stkFree (I : Inv X pins σ H s) : ∀ b ∈ frs X.stack, H b = none := fun b hb => by
  rcases List.mem_cons.mp (I.stkSub b hb) with e | hb
  · rw [e]; exact I.free
  · obtain ⟨_, o, ho, _⟩ := I.ok.funs.mem hb
    exact I.base.free b o ho (I.ok.frf b hb) fun z => I.ok.exfs b z hb

/-- THE STEP: the untracked objects but the frame and the records at ch are kept (the callers' frames up to slots), the frame's map is kept, the new abstract heap is held -/
theorem Inv.step {g' : Array GenState} {t' : Nat} {d' : Drawn} {ch : List Addr} (I : Inv X pins σ H s)
    (hch : ∀ b ∈ ch, (b ∈ X.ex ∨ X.s₀.heap.objs.size ≤ b) ∧ b ≠ X.env.locals ∧ (∀ x c, X.env.cells.lookup x = some c → c ≠ b) ∧ ∀ p ∈ X.pn ++ pins, p.1 ≠ b)
    (keep : ∀ b o, b ≠ X.env.locals → b ∉ X.fs → b ∉ ch → s.heap.get? b = some o → H b = none → h'.get? b = some o)
    (slot : ∀ b o, b ≠ X.env.locals → b ∈ X.fs → b ∉ ch → s.heap.get? b = some o → H b = none → ∃ sl, h'.get? b = some { o with slots := sl }) (free : ∀ b o, b ∉ ch → s.heap.get? b = some o → H b = none → H' b = none)
    (there : ∀ b o, b ∉ ch → s.heap.get? b = some o → ∃ o', h'.get? b = some o')
    (tups : ∀ b xs, H b = some (.tup xs) → H' b = some (.tup xs)) (frzs : ∀ b o u, H b = some (.frz o u) → H' b = some (.frz o u)) (tbls : ∀ b ps, H b = some (.tbl ps) → ∃ more, H' b = some (.tbl (ps ++ more)))
    (ns : ∀ m, s.heap.Ns X.env.locals m → h'.Ns X.env.locals m) (hok : HOk X.prog X.w H' h') (hg : AllBare g') :
    Inv X pins σ H' { s with heap := h', gens := g', drawn := d', toks := t' } := by
  have neL : ∀ b o, X.s₀.heap.get? b = some o → b ≠ X.env.locals := fun b o e => Nat.ne_of_lt (Nat.lt_of_lt_of_le (Heap.lt_size e) I.ok.above)
  have neC : ∀ b o, X.s₀.heap.get? b = some o → b ∉ X.ex → b ∉ ch := fun b o e hx hb => by
    rcases (hch b hb).1 with z | z
    · exact hx z
    · exact absurd (Nat.lt_of_lt_of_le (Heap.lt_size e) z) (Nat.lt_irrefl _)
  have cellK : ∀ x c, X.env.cells.lookup x = some c → ∀ v, s.heap.IsCell c v → h'.IsCell c v := fun x c e v ⟨o, ho, hd⟩ => by
    have nch : c ∉ ch := fun z => (hch c z).2.2.1 x c e rfl
    by_cases hc : c ∈ X.fs
    · obtain ⟨sl, q⟩ := slot c o (I.cne x c e) hc nch ho (I.freeC x c e)
      exact ⟨_, q, hd⟩
    · exact ⟨o, keep c o (I.cne x c e) hc nch ho (I.freeC x c e), hd⟩
  refine ⟨I.ok, I.os, hg, ⟨fun b o e n hb hx => ?_, fun b o e n hb hx => ?_, fun b o e n hx => ?_, fun b o e hx => ?_, fun b xs e => tups b xs (I.base.tups b xs e), fun b o xs e => frzs b o xs (I.base.frzs b o xs e), fun b ps e => ?_⟩, ?_, fun x c e => ?_, ?_, fun x c e => ?_, fun p hp => ?_, hok, I.len⟩
  · exact keep b o (neL b o e) hb (neC b o e hx) (I.base.keep b o e n hb hx) (I.base.free b o e n hx)
  · obtain ⟨sl, e1⟩ := I.base.slot b o e n hb hx
    obtain ⟨sl', e2⟩ := slot b _ (neL b o e) hb (neC b o e hx) e1 (I.base.free b o e n hx)
    exact ⟨sl', e2⟩
  · obtain ⟨o', e1⟩ := I.base.there b o e hx
    exact free b o' (neC b o e hx) e1 (I.base.free b o e n hx)
  · obtain ⟨o', e1⟩ := I.base.there b o e hx
    exact there b o' (neC b o e hx) e1
  · obtain ⟨m1, e1⟩ := I.base.tbls b ps e
    obtain ⟨m2, e2⟩ := tbls b _ e1
    exact ⟨m1 ++ m2, by rw [e2, Array.append_assoc]⟩
  · obtain ⟨m, hn, hl⟩ := I.loc
    refine ⟨m, ns m hn, fun i x v e1 e2 e3 => ?_⟩
    obtain ⟨u, r, l⟩ := hl i x v e1 e2 e3
    refine ⟨u, r, ?_⟩
    rcases l with l | ⟨k, c, e, z⟩
    · exact .inl l
    · exact .inr ⟨k, c, e, cellK x c e _ z⟩
  · obtain ⟨v, z⟩ := I.cell x c e
    exact ⟨v, cellK x c e v z⟩
  · obtain ⟨m, ⟨o, _, _, ho, _⟩, _⟩ := I.loc
    exact free _ o (fun z => (hch _ z).2.1 rfl) ho I.free
  · obtain ⟨v, o, ho, hd⟩ := I.cell x c e
    exact free c o (fun z => (hch c z).2.2.1 x c e rfl) ho (I.freeC x c e)
  · obtain ⟨e, n, ne, nf, d⟩ := I.pin p hp
    have nch : p.1 ∉ ch := fun z => (hch p.1 z).2.2.2 p hp rfl
    exact ⟨keep p.1 p.2 ne nf nch e n, free p.1 p.2 nch e n, ne, nf, d⟩
/-- .. where the frame's own object is kept too -/
theorem Inv.un {t' : Nat} (I : Inv X pins σ H s) (u : Un X.fs [] H H' s.heap h') (hok : HOk X.prog X.w H' h') : Inv X pins σ H' { s with heap := h', toks := t' } := by
  obtain ⟨m, ⟨o, es, ep, ho, r⟩, _⟩ := id I.loc
  obtain ⟨sl, hL⟩ := u.any ho I.free (by simp)
  exact I.step (g' := s.gens) (d' := s.drawn) (ch := []) (fun _ z => nomatch z) (fun b o _ hb _ e n => u.keep b o e n hb (by simp)) (fun b o _ hb _ e n => u.slot b o e n hb (by simp)) (fun b o _ e n => u.free b o e n (by simp)) (fun b o _ e => u.there b o e (by simp)) u.tups u.frzs u.tbls (fun m' hm => by
    obtain ⟨o', es', ep', ho', r'⟩ := hm
    rw [ho] at ho'; cases ho'
    exact ⟨_, es', ep', hL, r'⟩) hok I.bare
/-- behind a call (or a comprehension's block): the slots of this frame may have changed too, the records at ch may have turned -/
theorem Inv.call {g' : Array GenState} {t' : Nat} {d' : Drawn} {ch : List Addr} (I : Inv X pins σ H s) (u : Un (frs X.stack) ch H H' s.heap h') (hok : HOk X.prog X.w H' h') (hg : AllBare g')
    (hch : ∀ b ∈ ch, (b ∈ X.ex ∨ X.s₀.heap.objs.size ≤ b) ∧ b ≠ X.env.locals ∧ (∀ x c, X.env.cells.lookup x = some c → c ≠ b) ∧ ∀ p ∈ X.pn ++ pins, p.1 ≠ b) :
    Inv X pins σ H' { s with heap := h', gens := g', drawn := d', toks := t' } := by
  obtain ⟨m, ⟨o, es, ep, ho, r⟩, _⟩ := id I.loc
  obtain ⟨sl, hL⟩ := u.any ho I.free fun z => (hch _ z).2.1 rfl
  exact I.step (ch := ch) hch (fun b o hL hb hc e n => u.keep b o e n (fun z => (List.mem_cons.mp (I.stkSub b z)).elim hL hb) hc) (fun b o _ _ hc e n => u.any e n hc) (fun b o hc e n => u.free b o e n hc) (fun b o hc e => u.there b o e hc) u.tups u.frzs u.tbls (fun m' hm => by
    obtain ⟨o', es', ep', ho', r'⟩ := hm
    rw [ho] at ho'; cases ho'
    exact ⟨_, es', ep', hL, r'⟩) hok hg
/-- an untracked record of ours (an iterator) has turned -/
theorem Inv.turned {t' : Nat} {it : Addr} (I : Inv X pins σ H s) (k : ∀ b o, b ≠ it → s.heap.get? b = some o → h'.get? b = some o) (hn : H it = none) (hL : it ≠ X.env.locals)
    (h1 : it ∈ X.ex ∨ X.s₀.heap.objs.size ≤ it) (h2 : ∀ x c, X.env.cells.lookup x = some c → c ≠ it) (h3 : ∀ p ∈ X.pn ++ pins, p.1 ≠ it) : Inv X pins σ H { s with heap := h', toks := t' } := by
  have nit : ∀ b u, H b = some u → b ≠ it := fun b u e z => by rw [z, hn] at e; cases e
  refine I.step (g' := s.gens) (d' := s.drawn) (ch := [it]) (fun b hb => ?_) (fun b o _ _ hc e _ => k b o (fun z => hc (by simp [z])) e) (fun b o _ _ hc e _ => ⟨o.slots, k b o (fun z => hc (by simp [z])) e⟩) (fun _ _ _ _ n => n)
    (fun b o hc e => ⟨o, k b o (fun z => hc (by simp [z])) e⟩) (fun _ _ e => e) (fun _ _ _ e => e) (fun b ps e => ⟨#[], by rw [e]; simp⟩) (fun m hm => ?_) (fun b u e => ?_) I.bare
  · have e : b = it := by simpa using hb
    subst e
    exact ⟨h1, hL, h2, h3⟩
  · obtain ⟨o, es, ep, ho, r⟩ := hm
    exact ⟨o, es, ep, k _ o (Ne.symm hL) ho, r⟩
  · refine (I.hok b u e).stay (fun c v hc q => k c v ?_ q) (fun _ q => q) fun _ _ q => q
    rcases hc with z | z
    · rw [z]; exact nit b u e
    · exact nit c _ z
theorem Inv.tok (I : Inv X pins σ H s) (t : Nat) : Inv X pins σ H { s with toks := t } := I.un (h' := s.heap) (t' := t) Un.refl I.hok
/-- all objects kept -/
theorem Inv.kept {t' : Nat} (I : Inv X pins σ H s) (k : ∀ b u, s.heap.get? b = some u → h'.get? b = some u) : Inv X pins σ H { s with heap := h', toks := t' } := I.un (Un.kept k) (I.hok.kept k)
/-- a new object laid and tracked -/
theorem Inv.laid {a : Addr} {o : HO} {t' : Nat} (I : Inv X pins σ H s) (k : ∀ b u, s.heap.get? b = some u → h'.get? b = some u) (hp : s.heap.objs.size ≤ a) (new : ObjOk X.prog X.w (upd H a o) h' a o) :
    Inv X pins σ (upd H a o) { s with heap := h', toks := t' } := I.un (Un.laid k hp (I.hok.fresh hp)) (I.hok.laid k hp new)
/-- an object written -/
theorem Inv.write {x e : Addr} {o : HO} {t' : Nat} (I : Inv X pins σ H s) (mu : Mut (H x)) (he : e = x ∨ H e = some (.own x)) (k : ∀ b u, b ≠ e → s.heap.get? b = some u → h'.get? b = some u) (heo : ∃ u, h'.get? e = some u)
    (new : ObjOk X.prog X.w (upd H x o) h' x o) : Inv X pins σ (upd H x o) { s with heap := h', toks := t' } := I.un (Un.write mu he k heo) (I.hok.write mu he k heo new)
theorem Inv.pins_of {pins' : List (Addr × Obj)} (I : Inv X pins σ H s) (h : ∀ p ∈ pins', s.heap.get? p.1 = some p.2 ∧ H p.1 = none ∧ p.1 ≠ X.env.locals ∧ p.1 ∉ X.fs ∧ ∀ v, p.2.data ≠ .cell v) : Inv X pins' σ H s :=
  ⟨I.ok, I.os, I.bare, I.base, I.loc, I.cell, I.free, I.freeC, fun p hp => (List.mem_append.mp hp).elim (fun z => I.pin p (List.mem_append_left _ z)) (h p), I.hok, I.len⟩

theorem nodup_ix {N : List Str} (hN : N.Nodup) {i j : Nat} {x : Str} (a : N[i]? = some x) (b : N[j]? = some x) : i = j := by
  obtain ⟨h1, e1⟩ := List.getElem?_eq_some_iff.mp a
  obtain ⟨h2, e2⟩ := List.getElem?_eq_some_iff.mp b
  exact (List.getElem_inj hN).mp (e1.trans e2.symm)

/-- a name is stored; what changed -/
theorem store_ok2 {M : Model} {A : Around} {E : Value → Shared → Prop} {i : Nat} {x : Str} {v : V} {u : Value} {Q : Unit → Shared → Prop} (I : Inv X pins σ H s) (hN : X.N.Nodup) (hi : X.N[i]? = some x) (hx : Loc X.env.scope x) (r : RelV v u)
    (h : ∀ s', Inv X pins (σ.set i (some v)) H s' → (∃ a, Heap.SameBut a s.heap s'.heap ∧ (a = X.env.locals ∨ X.env.cells.lookup x = some a)) → Q () s') (hf : X.fn x = true ∨ X.env.scope.names.lookup x = some .local := by first | exact .inl rfl | exact .inr rfl | assumption) : wpAny M A (storeName X.env x u) Q E s := by
  obtain ⟨m, hn, hl⟩ := id I.loc
  have hcls : (X.env.scope.kind == .class || (X.env.scope.kind == .module && X.env.locals != X.env.globals)) = false := by rw [I.ok.kind]; rfl
  have hiσ : i < σ.length := by rw [I.len]; exact (List.getElem?_eq_some_iff.mp hi).1
  have cne := I.cne
  have tracked : ∀ {a : Addr} {h' : Heap}, (∃ o, s.heap.get? a = some o ∧ H a = none) → Heap.SameBut a s.heap h' → HOk X.prog X.w H h' := fun {a h'} ha hs b ob e => by
    obtain ⟨_, _, hfree⟩ := ha
    refine (I.hok b ob e).stay (fun c w' hc q => (hs.2 c ?_).trans q) (fun _ q => q) fun _ _ q => q
    rintro rfl
    rcases hc with rfl | hc
    · rw [hfree] at e; cases e
    · rw [hfree] at hc; cases hc
  rcases hx with hk | hk
  · refine wpAny_storeName_local hk hn (fun h' hn' hs => ?_) hcls
    obtain ⟨oL, _, _, hoL, _⟩ := id hn
    refine h _ ⟨I.ok, I.os, I.bare, ⟨fun b o e n hb hx => ?_, fun b o e n hb hx => ?_, I.base.free, fun b o e hx => ?_, I.base.tups, I.base.frzs, I.base.tbls⟩, ⟨_, hn', fun j y v' e1 e2 e3 => ?_⟩, fun y c e => ?_, I.free, I.freeC, fun p hp => ?_, tracked ⟨oL, hoL, I.free⟩ hs, by simpa using I.len⟩ ⟨_, hs, .inl rfl⟩
    · exact (hs.2 b (Nat.ne_of_lt (Nat.lt_of_lt_of_le (Heap.lt_size e) I.ok.above))).trans (I.base.keep b o e n hb hx)
    · obtain ⟨sl, e1⟩ := I.base.slot b o e n hb hx
      exact ⟨sl, (hs.2 b (Nat.ne_of_lt (Nat.lt_of_lt_of_le (Heap.lt_size e) I.ok.above))).trans e1⟩
    · obtain ⟨o', e1⟩ := I.base.there b o e hx
      exact ⟨o', (hs.2 b (Nat.ne_of_lt (Nat.lt_of_lt_of_le (Heap.lt_size e) I.ok.above))).trans e1⟩
    · by_cases hj : j = i
      · subst hj
        rw [hi] at e1; cases e1
        rw [List.getElem?_set_self hiσ] at e2
        cases e2
        exact ⟨u, r, .inl ⟨hk, by simp⟩⟩
      · rw [List.getElem?_set_ne (Ne.symm hj)] at e2
        obtain ⟨u', r', q⟩ := hl j y v' e1 e2 e3
        refine ⟨u', r', ?_⟩
        rcases q with ⟨k, e⟩ | ⟨k, c, e, z⟩
        · refine .inl ⟨k, ?_⟩
          have : y ≠ x := fun e => hj (nodup_ix hN e1 (e ▸ hi))
          simp [this, e]
        · exact .inr ⟨k, c, e, z.sameBut hs (cne y c e)⟩
    · obtain ⟨w', z⟩ := I.cell y c e
      exact ⟨w', z.sameBut hs (cne y c e)⟩
    · obtain ⟨e, n, ne, nf, d⟩ := I.pin p hp
      exact ⟨(hs.2 p.1 ne).trans e, n, ne, nf, d⟩
  · have hfn : X.fn x = true := by
      rcases hf with z | z
      · exact z
      · rw [z] at hk; cases hk
    obtain ⟨c, hc⟩ := I.ok.has x (.inl hk)
    obtain ⟨w', z⟩ := I.cell x c hc
    refine wpAny_storeName_cell I.ok.kind hk hc z (fun h' hc' hs => ?_)
    obtain ⟨oc, hoc, hocd⟩ := id z
    refine h { s with heap := h' } ⟨I.ok, I.os, I.bare, ⟨fun b o e n hb hx => ?_, fun b o e n hb hx => ?_, I.base.free, fun b o e hx => ?_, I.base.tups, I.base.frzs, I.base.tbls⟩, ⟨m, hn.sameBut hs (Ne.symm (cne x c hc)), fun j y v' e1 e2 e3 => ?_⟩, fun y c' e => ?_, I.free, I.freeC, fun p hp => ?_, tracked ⟨oc, hoc, I.freeC x c hc⟩ hs, by simpa using I.len⟩ ⟨c, hs, .inr hc⟩
    · exact (hs.2 b (Nat.ne_of_lt (Nat.lt_of_lt_of_le (Heap.lt_size e) (I.ok.cab x c hfn hc)))).trans (I.base.keep b o e n hb hx)
    · obtain ⟨sl, e1⟩ := I.base.slot b o e n hb hx
      exact ⟨sl, (hs.2 b (Nat.ne_of_lt (Nat.lt_of_lt_of_le (Heap.lt_size e) (I.ok.cab x c hfn hc)))).trans e1⟩
    · obtain ⟨o', e1⟩ := I.base.there b o e hx
      exact ⟨o', (hs.2 b (Nat.ne_of_lt (Nat.lt_of_lt_of_le (Heap.lt_size e) (I.ok.cab x c hfn hc)))).trans e1⟩
    · by_cases hj : j = i
      · subst hj
        rw [hi] at e1; cases e1
        rw [List.getElem?_set_self hiσ] at e2
        cases e2
        exact ⟨u, r, .inr ⟨.inl hk, c, hc, hc'⟩⟩
      · rw [List.getElem?_set_ne (Ne.symm hj)] at e2
        obtain ⟨u', r', q⟩ := hl j y v' e1 e2 e3
        refine ⟨u', r', ?_⟩
        rcases q with q | ⟨k, c', e, z'⟩
        · exact .inl q
        · refine .inr ⟨k, c', e, z'.sameBut hs ?_⟩
          rintro rfl
          exact hj (nodup_ix hN e1 (I.ok.inj _ _ _ e hc ▸ hi))
    · by_cases hcc : c' = c
      · subst hcc; exact ⟨_, hc'⟩
      · obtain ⟨w2, z2⟩ := I.cell y c' e
        exact ⟨w2, z2.sameBut hs hcc⟩
    · obtain ⟨e, n, ne, nf, d⟩ := I.pin p hp
      refine ⟨(hs.2 p.1 ?_).trans e, n, ne, nf, d⟩
      intro q
      rw [q, hoc] at e
      have q' : oc = p.2 := Option.some.inj e
      exact d w' (by rw [← q']; exact hocd)
theorem store_ok {M : Model} {A : Around} {E : Value → Shared → Prop} {i : Nat} {x : Str} {v : V} {u : Value} {Q : Unit → Shared → Prop} (I : Inv X pins σ H s) (hN : X.N.Nodup) (hi : X.N[i]? = some x) (hx : Loc X.env.scope x) (r : RelV v u)
    (h : ∀ s', Inv X pins (σ.set i (some v)) H s' → Q () s') (hf : X.fn x = true ∨ X.env.scope.names.lookup x = some .local := by first | exact .inl rfl | exact .inr rfl | assumption) : wpAny M A (storeName X.env x u) Q E s :=
  store_ok2 I hN hi hx r (fun s' I' _ => h s' I') hf
/-- behind a call or a block, the state as it is -/
theorem Inv.call' {s' : Shared} {ch : List Addr} (I : Inv X pins σ H s) (ho : s'.os = s.os) (u : Un (frs X.stack) ch H H' s.heap s'.heap) (hok : HOk X.prog X.w H' s'.heap) (hg : AllBare s'.gens)
    (hch : ∀ b ∈ ch, (b ∈ X.ex ∨ X.s₀.heap.objs.size ≤ b) ∧ b ≠ X.env.locals ∧ (∀ x c, X.env.cells.lookup x = some c → c ≠ b) ∧ ∀ p ∈ X.pn ++ pins, p.1 ≠ b) : Inv X pins σ H' s' := by
  obtain ⟨h', g', d', t', o'⟩ := s'
  have e : o' = s.os := ho
  subst e
  exact I.call (g' := g') (t' := t') (d' := d') u hok hg hch
end

/-! ### the judgements -/
/-- an exception: its class, its own dict's address (where it has one), the abstract heap behind it -/
noncomputable abbrev XK := Value → Option Addr → Hp → Prop
noncomputable abbrev St := List (Option V)
noncomputable abbrev VK := V → Hp → Prop
/-- an expression's reading; a test's; an argument list's -/
noncomputable abbrev TE := St → Hp → VK → Prop
noncomputable abbrev TT := St → Hp → (Bool → Hp → Prop) → Prop
noncomputable abbrev TA := St → Hp → (List V → Hp → Prop) → Prop
/-- what is wanted behind a statement -/
structure Ends where
  nx : St → Hp → Prop
  rt : VK
  bk : St → Hp → Prop := fun _ _ => False
  ct : St → Hp → Prop := fun _ _ => False
noncomputable abbrev TS := Ends → St → Hp → Prop

noncomputable def EP (X : Cx) (pins : List (Addr × Obj)) (σ : St) (Q : VK) (u : Value) (s' : Shared) : Prop := ∃ v H', Inv X pins σ H' s' ∧ RelV v u ∧ Q v H'
noncomputable def TP (X : Cx) (pins : List (Addr × Obj)) (σ : St) (Q : Bool → Hp → Prop) (b : Bool) (s' : Shared) : Prop := ∃ H', Inv X pins σ H' s' ∧ Q b H'
noncomputable def AP (X : Cx) (pins : List (Addr × Obj)) (σ : St) (Q : List V → Hp → Prop) (us : List Value) (s' : Shared) : Prop := ∃ vs H', Inv X pins σ H' s' ∧ Vals vs us ∧ Q vs H'
noncomputable def SP (X : Cx) (pins : List (Addr × Obj)) (D : Ends) (f : Flow) (s' : Shared) : Prop :=
  match f with
  | .next => ∃ σ' H', Inv X pins σ' H' s' ∧ D.nx σ' H'
  | .brk => ∃ σ' H', Inv X pins σ' H' s' ∧ D.bk σ' H'
  | .cont => ∃ σ' H', Inv X pins σ' H' s' ∧ D.ct σ' H'
  | .ret u => ∃ v σ' H', Inv X pins σ' H' s' ∧ RelV v u ∧ D.rt v H'

noncomputable def PE (X : Cx) (e : Expr) (t : TE) : Prop :=
  ∀ (pins : List (Addr × Obj)) (s : Shared) (σ : St) (H : Hp) (Q : VK), Inv X pins σ H s → t σ H Q → wpAny (model X.prog X.w) X.A (eval e X.env) (EP X pins σ Q) X.xe s
noncomputable def PT (X : Cx) (e : Expr) (t : TT) : Prop :=
  ∀ (pins : List (Addr × Obj)) (s : Shared) (σ : St) (H : Hp) (Q : Bool → Hp → Prop), Inv X pins σ H s → t σ H Q → wpAny (model X.prog X.w) X.A (isTrue e X.env (eval e X.env)) (TP X pins σ Q) X.xe s
/-- a test whatever its 'whole' is (and, or) -/
noncomputable def PW (X : Cx) (e : Expr) (t : TT) : Prop :=
  ∀ (whole : Sem Value) (pins : List (Addr × Obj)) (s : Shared) (σ : St) (H : Hp) (Q : Bool → Hp → Prop), Inv X pins σ H s → t σ H Q → wpAny (model X.prog X.w) X.A (isTrue e X.env whole) (TP X pins σ Q) X.xe s
theorem PW.pt {X : Cx} {e : Expr} {t : TT} (h : PW X e t) : PT X e t := h _
/-- an argument list (no star), from the left -/
noncomputable def PA (X : Cx) (es : List Expr) (t : TA) : Prop :=
  ∀ (pos : Pos) (pins : List (Addr × Obj)) (s : Shared) (σ : St) (H : Hp) (Q : List V → Hp → Prop), Inv X pins σ H s → t σ H Q → wpAny (model X.prog X.w) X.A (spliced (backTo pos (starEach es X.env))) (AP X pins σ Q) X.xe s
noncomputable def PS (X : Cx) (st : Stmt) (t : TS) : Prop :=
  ∀ (pins : List (Addr × Obj)) (s : Shared) (σ : St) (H : Hp) (D : Ends), Inv X pins σ H s → t D σ H → wpAny (model X.prog X.w) X.A (exec st X.env) (SP X pins D) X.xe s
noncomputable def PSs (X : Cx) (st : List Stmt) (t : TS) : Prop :=
  ∀ (pins : List (Addr × Obj)) (s : Shared) (σ : St) (H : Hp) (D : Ends), Inv X pins σ H s → t D σ H → wpAny (model X.prog X.w) X.A (execs st X.env) (SP X pins D) X.xe s
/-- weaken the end -/
theorem thn {α : Type} {t : Sem α} {Q Q' : α → Shared → Prop} {M : Model} {A : Around} {E : Value → Shared → Prop} {s : Shared} (h : wpAny M A t Q E s) (hQ : ∀ a s, Q a s → Q' a s) : wpAny M A t Q' E s := wpAny_mono h hQ fun _ _ x => x
end L2

namespace L2
open PySem PySem.Spec PyProof.Rows
section
variable {X : Cx}

/-! ### names and constants -/
noncomputable def tVar (i : Nat) : TE := fun σ H Q => ∃ v, σ[i]? = some (some v) ∧ Q v H
noncomputable def tC (v : V) : TE := fun _ H Q => Q v H
theorem pe_var {i : Nat} {x : Str} {pos : Pos} (hN : X.N[i]? = some x) (hv : Vis X.env.scope x) (hd : (x == ("__debug__" : Str)) = false := by decide) (hcd : (x == ("__classdict__" : Str)) = false := by decide) : PE X (.Name x pos) (tVar i) := by
  intro pins s σ H Q I h
  obtain ⟨v, e, h⟩ := h
  obtain ⟨m, hn, hl⟩ := I.loc
  obtain ⟨u, r, l⟩ := hl i x v hN e hv
  have fin : EP X pins σ Q u s := ⟨v, H, I, r, h⟩
  rcases l with ⟨hk, hm⟩ | ⟨hk, c, hc, hcell⟩
  · exact wpAny_Name (wpAny_loadName_local I.ok.kind hk hn hm fin) hd
  · rcases hk with hk | hk
    · exact wpAny_Name (wpAny_loadName_cell I.ok.kind hk hc hcell fin) hd
    · exact wpAny_Name (wpAny_loadName_free I.ok.kind hk hc hcell fin hcd) hd
theorem pe_int {i j pos} : PE X (.Constant (.int i) j pos) (tC (.int i)) := fun _ _ _ H _ I h => wpAny_Constant_int ⟨.int i, H, I.tok _, ⟨_, rfl⟩, h⟩
theorem pe_bl {b j pos} : PE X (.Constant (.bool b) j pos) (tC (.bl b)) := fun _ _ _ H _ I h => Constant_bool ⟨.bl b, H, I, rfl, h⟩
/-- a global name of the def -/
noncomputable def Gl (X : Cx) (x : Str) : Prop := X.env.kindOf x = some .globalImplicit
theorem ld_glob {E : Value → Shared → Prop} {pins : List (Addr × Obj)} {s : Shared} {σ : St} {H : Hp} {x : Str} {u : Value} {pos : Pos} {Q : Value → Shared → Prop} (I : Inv X pins σ H s) (hg : Gl X x) (hm : X.mg x = some u) (h : Q u s)
    (hd : (x == ("__debug__" : Str)) = false := by decide) : wpAny (model X.prog X.w) X.A (eval (.Name x pos) X.env) Q E s :=
  Calls.Name_function_global I.ok.kind hg (Calls.loadGlobal_global (by rw [I.ok.glob]; exact I.mod.glob.keeps I.bk) hm h) hd
theorem ld_blt {E : Value → Shared → Prop} {pins : List (Addr × Obj)} {s : Shared} {σ : St} {H : Hp} {x : Str} {u : Value} {pos : Pos} {Q : Value → Shared → Prop} (I : Inv X pins σ H s) (hg : Gl X x) (hm : X.mg x = none) (hv : bootBuiltins x = some u) (h : Q u s)
    (hn : x ≠ "__name__" := by decide) (hd : (x == ("__debug__" : Str)) = false := by decide) : wpAny (model X.prog X.w) X.A (eval (.Name x pos) X.env) Q E s := by
  obtain ⟨mb, h1, h2⟩ := I.mod.blt
  exact Calls.Name_function_global I.ok.kind hg (Calls.loadGlobal_builtin (by rw [I.ok.glob]; exact I.mod.glob.keeps I.bk) hm (by rw [I.ok.blt]; exact h1.keeps I.bk) ((h2 x hn).trans hv) h) hd
/-- a module's constant, a class, a function, as a value -/
theorem pe_glob {x : Str} {v : V} {u : Value} {pos : Pos} (hg : Gl X x) (hm : X.mg x = some u) (r : RelV v u) (hd : (x == ("__debug__" : Str)) = false := by decide) : PE X (.Name x pos) (tC v) :=
  fun _ _ _ H _ I h => ld_glob I hg hm ⟨v, H, I, r, h⟩ hd
theorem pe_bltn {x : Str} {v : V} {u : Value} {pos : Pos} (hg : Gl X x) (hm : X.mg x = none) (hv : bootBuiltins x = some u) (r : RelV v u) (hn : x ≠ "__name__" := by decide) (hd : (x == ("__debug__" : Str)) = false := by decide) : PE X (.Name x pos) (tC v) :=
  fun _ _ _ H _ I h => ld_blt I hg hm hv ⟨v, H, I, r, h⟩ hn hd

/-! ### arithmetic -/
variable {a b : Expr} {ta tb : TE} {pos : Pos}
/-! ### comparisons -/
/-! ### and, or, not -/
variable {tA tB' : TT} {rest : List Expr}
noncomputable def tAnd (t u : TT) : TT := fun σ H Q => t σ H fun c H1 => if c = true then u σ H1 Q else Q false H1
noncomputable def tOr (t u : TT) : TT := fun σ H Q => t σ H fun c H1 => if c = true then Q true H1 else u σ H1 Q
noncomputable def tNot (t : TT) : TT := fun σ H Q => t σ H fun c H1 => Q (!c) H1
theorem pw_and1 (ha : PT X a tA) : PW X (.BoolOp .And [a] pos) tA := by
  intro wh pins s σ H Q I h
  refine isTrue_and (thn (ha pins s σ H Q I h) fun c s1 e => ?_)
  cases c with
  | true => exact isTrue_and_nil e
  | false => exact e
theorem pw_or1 (ha : PT X a tA) : PW X (.BoolOp .Or [a] pos) tA := by
  intro wh pins s σ H Q I h
  refine isTrue_or (thn (ha pins s σ H Q I h) fun c s1 e => ?_)
  cases c with
  | false => exact isTrue_or_nil e
  | true => exact e
theorem pw_and (ha : PT X a tA) (hb : PW X (.BoolOp .And (b :: rest) pos) tB') : PW X (.BoolOp .And (a :: b :: rest) pos) (tAnd tA tB') := by
  intro wh pins s σ H Q I h
  refine isTrue_and (thn (ha pins s σ H _ I h) fun c s1 ⟨H1, I1, q1⟩ => ?_)
  cases c with
  | true => exact hb wh pins s1 σ H1 Q I1 q1
  | false => exact ⟨H1, I1, q1⟩
theorem pw_or (ha : PT X a tA) (hb : PW X (.BoolOp .Or (b :: rest) pos) tB') : PW X (.BoolOp .Or (a :: b :: rest) pos) (tOr tA tB') := by
  intro wh pins s σ H Q I h
  refine isTrue_or (thn (ha pins s σ H _ I h) fun c s1 ⟨H1, I1, q1⟩ => ?_)
  cases c with
  | true => exact ⟨H1, I1, q1⟩
  | false => exact hb wh pins s1 σ H1 Q I1 q1
theorem pt_not (ha : PT X a tA) : PT X (.UnaryOp .Not a pos) (tNot tA) := by
  intro pins s σ H Q I h
  exact isTrue_not (ha pins s σ H (fun c H1 => Q (!c) H1) I h)
/-- .. as values (bools) -/
noncomputable def tAndV (ta tb : TE) : TE := fun σ H Q => ta σ H fun x H1 => ∃ c, x = .bl c ∧ if c = true then tb σ H1 Q else Q (.bl false) H1
theorem pe_one {op} {t : TE} (h : PE X a t) : PE X (.BoolOp op [a] pos) t := fun pins s σ H Q I hw => BoolOp_one (h pins s σ H Q I hw)
theorem pe_and (ha : PE X a ta) (hb : PE X (.BoolOp .And (b :: rest) pos) tb) : PE X (.BoolOp .And (a :: b :: rest) pos) (tAndV ta tb) := by
  intro pins s σ H Q I h
  refine BoolOp_and (thn (ha pins s σ H _ I h) fun v s1 ⟨x, H1, I1, r1, q1⟩ => ?_)
  obtain ⟨c, rfl, q1⟩ := q1
  cases r1
  refine wpAny_truthy_bool ?_
  cases c with
  | true => exact hb pins s1 σ H1 Q I1 q1
  | false => exact ⟨.bl false, H1, I1, rfl, q1⟩
/-- a if t else b -/
noncomputable def tIf (t : TT) (ta tb : TE) : TE := fun σ H Q => t σ H fun c H1 => if c = true then ta σ H1 Q else tb σ H1 Q
theorem pe_ifExp {c : Expr} (hc : PT X c tA) (ha : PE X a ta) (hb : PE X b tb) : PE X (.IfExp c a b pos) (tIf tA ta tb) := by
  intro pins s σ H Q I h
  refine wpAny_IfExp (thn (hc pins s σ H _ I h) fun d s1 ⟨H1, I1, q1⟩ => ?_)
  cases d with
  | true => exact ha pins s1 σ H1 Q I1 q1
  | false => exact hb pins s1 σ H1 Q I1 q1
end
end L2

namespace L2
open PySem PySem.Spec PyProof.Rows

/-! ### a list, a tuple that is read: tracked, frozen, or an object of the module -/
noncomputable def SqL (K : PySem.W.Frag) (H : Hp) (a : Addr) (xs : List V) : Prop :=
  Rd H a (.lst xs) ∨
    ∃ (o : Obj) (its : Array Value) (n : Nat), K.lookup a = some o ∧ o.cls = .type "list" ∧ o.dict = none ∧ o.data = .seq its n ∧ its.size ≤ sizeLine ∧ Vals xs its.toList
noncomputable def SqT (K : PySem.W.Frag) (H : Hp) (a : Addr) (xs : List V) : Prop :=
  Rd H a (.tup xs) ∨
    ∃ (o : Obj) (its : Array Value) (n : Nat), K.lookup a = some o ∧ o.cls = .type "tuple" ∧ o.data = .seq its n ∧ its.size ≤ sizeLine ∧ Vals xs its.toList
noncomputable def absV : Value → Option V
  | .none => some .non
  | .bool b => some (.bl b)
  | .int i _ => some (.int i)
  | .str x _ => some (.str x)
  | .bytes b _ => some (.byt b)
  | .float b _ => some (.flt b)
  | .ref a => some (.ref a)
  | .type n => some (.ty n)
  | _ => none
theorem RelV.abs {x : V} {u : Value} (r : RelV x u) : absV u = some x := by
  cases x with
  | non => cases r; rfl
  | bl _ => cases r; rfl
  | int _ => obtain ⟨t, rfl⟩ := r; rfl
  | str _ => obtain ⟨t, rfl⟩ := r; rfl
  | byt _ => obtain ⟨t, rfl⟩ := r; rfl
  | flt _ => obtain ⟨t, rfl⟩ := r; rfl
  | ref _ => cases r; rfl
  | ty _ => cases r; rfl
theorem RelV.inj {x y : V} {u : Value} (r : RelV x u) (q : RelV y u) : x = y := Option.some.inj (r.abs.symm.trans q.abs)
theorem Vals.inj : ∀ {xs ys : List V} {us : List Value}, Vals xs us → Vals ys us → xs = ys
  | _, _, _, .nil, .nil => rfl
  | _, _, _, .cons r t, .cons r' t' => by rw [r.inj r', Vals.inj t t']
section
variable {X : Cx} {pins : List (Addr × Obj)} {σ : St} {H : Hp} {s : Shared} {a : Addr} {xs ys : List V}
theorem SqL.of {K : PySem.W.Frag} (h : H a = some (.lst xs)) : SqL K H a xs := .inl (.inl h)
theorem SqT.of {K : PySem.W.Frag} (h : H a = some (.tup xs)) : SqT K H a xs := .inl (.inl h)
theorem Inv.list (I : Inv X pins σ H s) (h : SqL X.K H a xs) : ∃ its : List Value, Vals xs its ∧ PlainL s.heap a its.toArray ∧ xs.length ≤ sizeLine := by
  rcases h with h | ⟨o, its, n, hk, hc, hd, hs, hz, r⟩
  · obtain ⟨z, its, n, r, e⟩ := h.ok I.hok
    exact ⟨its, r, ⟨_, n, e, rfl, rfl, rfl⟩, z⟩
  · refine ⟨its.toList, r, ⟨o, n, I.kIn a o hk, hc, hd, by simpa using hs⟩, ?_⟩
    have e := r.length
    simp only [Array.length_toList] at e
    omega
theorem Inv.tuple (I : Inv X pins σ H s) (h : SqT X.K H a xs) : ∃ its : List Value, Vals xs its ∧ IsTup s.heap a its.toArray ∧ xs.length ≤ sizeLine := by
  rcases h with h | ⟨o, its, n, hk, hc, hs, hz, r⟩
  · obtain ⟨z, its, r, p⟩ := h.ok I.hok
    exact ⟨its, r, p, z⟩
  · refine ⟨its.toList, r, ⟨o, I.kIn a o hk, hc, n, by simpa using hs⟩, ?_⟩
    have e := r.length
    simp only [Array.length_toList] at e
    omega
theorem Inv.list_inj (I : Inv X pins σ H s) (h : SqL X.K H a xs) (h' : SqL X.K H a ys) : xs = ys := by
  obtain ⟨its, r, ⟨o, n, e, _, _, d⟩, _⟩ := I.list h
  obtain ⟨its', r', ⟨o', n', e', _, _, d'⟩, _⟩ := I.list h'
  rw [e] at e'; cases e'
  rw [d] at d'
  injection d' with d1 _
  have : its = its' := by simpa using congrArg Array.toList d1
  subst this
  exact r.inj r'
theorem Inv.tuple_inj (I : Inv X pins σ H s) (h : SqT X.K H a xs) (h' : SqT X.K H a ys) : xs = ys := by
  obtain ⟨its, r, ⟨o, e, _, n, d⟩, _⟩ := I.tuple h
  obtain ⟨its', r', ⟨o', e', _, n', d'⟩, _⟩ := I.tuple h'
  rw [e] at e'; cases e'
  rw [d] at d'
  injection d' with d1 _
  have : its = its' := by simpa using congrArg Array.toList d1
  subst this
  exact r.inj r'
end

/-! ### another wish about exceptions -/
noncomputable abbrev Cx.wish (X : Cx) (E : Value → Shared → Prop) : Cx := { X with xe := E }
/-- no exception leaves -/
noncomputable abbrev Cx.nox (X : Cx) : Cx := X.wish fun _ _ => False
theorem Cx.Ok.wish {X : Cx} (ok : X.Ok) (E : Value → Shared → Prop) : (X.wish E).Ok :=
  ⟨ok.mod, ok.kind, ok.glob, ok.blt, ok.above, ok.inj, ok.has, ok.cab, ok.hd, ok.frames, ok.stk, ok.exf, ok.bs, ok.bsz, ok.noex, ok.exfs, ok.funs, ok.frf⟩
theorem Cx.Ok.unwish {X : Cx} {E : Value → Shared → Prop} (ok : (X.wish E).Ok) : X.Ok :=
  ⟨ok.mod, ok.kind, ok.glob, ok.blt, ok.above, ok.inj, ok.has, ok.cab, ok.hd, ok.frames, ok.stk, ok.exf, ok.bs, ok.bsz, ok.noex, ok.exfs, ok.funs, ok.frf⟩
section
variable {X : Cx} {pins : List (Addr × Obj)} {σ : St} {H : Hp} {s : Shared} {E : Value → Shared → Prop}
theorem Inv.wish (I : Inv X pins σ H s) (E : Value → Shared → Prop) : Inv (X.wish E) pins σ H s := ⟨I.ok.wish E, I.os, I.bare, I.base, I.loc, I.cell, I.free, I.freeC, I.pin, I.hok, I.len⟩
theorem Inv.unwish (I : Inv (X.wish E) pins σ H s) : Inv X pins σ H s := ⟨I.ok.unwish, I.os, I.bare, I.base, I.loc, I.cell, I.free, I.freeC, I.pin, I.hok, I.len⟩
theorem SP.unwish {D : Ends} {f : Flow} {s' : Shared} (h : SP (X.wish E) pins D f s') : SP X pins D f s' := by
  cases f with
  | next => obtain ⟨σ', H', I, q⟩ := h; exact ⟨σ', H', I.unwish, q⟩
  | brk => obtain ⟨σ', H', I, q⟩ := h; exact ⟨σ', H', I.unwish, q⟩
  | cont => obtain ⟨σ', H', I, q⟩ := h; exact ⟨σ', H', I.unwish, q⟩
  | ret u => obtain ⟨v, σ', H', I, r, q⟩ := h; exact ⟨v, σ', H', I.unwish, r, q⟩
theorem PSs.nox {st : List Stmt} {t : TS} (h : PSs X.nox st t) : PSs X st t := fun pins s σ H D I hw =>
  wpAny_mono (h pins s σ H D (I.wish _) hw) (fun _ _ q => q.unwish) fun _ _ z => False.elim z
end

/-! ### blocks and small statements -/
section
variable {X : Cx} {st : Stmt} {rest : List Stmt} {t u : TS} {e : Expr} {te : TE} {pos : Pos}
noncomputable def tNext : TS := fun D σ H => D.nx σ H
noncomputable def tSeq (t u : TS) : TS := fun D σ H => t { D with nx := u D } σ H
theorem pss_nil : PSs X [] tNext := fun _ _ σ H _ I h => wpAny_execs_nil ⟨σ, H, I, h⟩
theorem pss_cons (h1 : PS X st t) (h2 : PSs X rest u) : PSs X (st :: rest) (tSeq t u) := by
  intro pins s σ H D I h
  refine wpAny_execs_cons (thn (h1 pins s σ H { D with nx := u D } I h) fun f s1 q => ?_)
  cases f with
  | next =>
    obtain ⟨σ', H', I', q⟩ := q
    exact h2 pins s1 σ' H' D I' q
  | ret v => exact q
  | brk => exact q
  | cont => exact q
theorem pss_one (h1 : PS X st t) : PSs X [st] t := by
  intro pins s σ H D I h
  refine wpAny_execs_cons (thn (h1 pins s σ H D I h) fun f s1 q => ?_)
  cases f with
  | next => exact wpAny_execs_nil q
  | ret v => exact q
  | brk => exact q
  | cont => exact q
/-- in a def's body nothing is shown -/
theorem Inv.quiet {pins : List (Addr × Obj)} {σ : St} {H : Hp} {s : Shared} (I : Inv X pins σ H s) : interactive X.env = false := by simp [interactive, I.ok.kind]
/-- an expression whose value is dropped -/
noncomputable def tDrop (te : TE) : TS := fun D σ H => te σ H fun _ H1 => D.nx σ H1
theorem ps_expr (he : PE X e te) (hs : swapsWith e none pos.line X.env = pure false := by rfl) : PS X (.Expr e pos) (tDrop te) := by
  intro pins s σ H D I h
  exact wpAny_Expr_any (thn (he pins s σ H _ I h) fun v s1 ⟨x, H1, I1, r1, q1⟩ => ⟨σ, H1, I1, q1⟩) I.quiet hs
noncomputable def tRet (te : TE) : TS := fun D σ H => te σ H D.rt
theorem ps_ret (he : PE X e te) : PS X (.Return (some e) pos) (tRet te) := by
  intro pins s σ H D I h
  exact wpAny_Return_some (thn (he pins s σ H _ I h) fun v s1 ⟨x, H1, I1, r1, q1⟩ => ⟨x, σ, H1, I1, r1, q1⟩)
noncomputable def tIfS (c : TT) (t u : TS) : TS := fun D σ H => c σ H fun b H1 => if b = true then t D σ H1 else u D σ H1
theorem ps_if {c : Expr} {a b : List Stmt} {tc : TT} (hc : PT X c tc) (ha : PSs X a t) (hb : PSs X b u) : PS X (.If c a b pos) (tIfS tc t u) := by
  intro pins s σ H D I h
  refine wpAny_If (thn (hc pins s σ H _ I h) fun d s1 ⟨H1, I1, q1⟩ => ?_)
  cases d with
  | true => exact ha pins s1 σ H1 D I1 q1
  | false => exact hb pins s1 σ H1 D I1 q1
/-- code that the proof never comes to -/
noncomputable def tNever : TS := fun _ _ _ => False
theorem ps_never : PS X st tNever := fun _ _ _ _ _ _ h => h.elim
end

/-! ### targets -/
noncomputable abbrev TG := V → St → Hp → (St → Hp → Prop) → Prop
noncomputable abbrev TGs := List V → St → Hp → (St → Hp → Prop) → Prop
noncomputable def PG (X : Cx) (target : Expr) (t : TG) : Prop :=
  ∀ (pins : List (Addr × Obj)) (s : Shared) (σ : St) (H : Hp) (v : V) (u : Value) (Q : St → Hp → Prop), Inv X pins σ H s → RelV v u → t v σ H Q →
    wpAny (model X.prog X.w) X.A (assign target X.env u) (fun _ s' => ∃ σ' H', Inv X pins σ' H' s' ∧ Q σ' H') X.xe s
/-- several targets, one after another -/
noncomputable def PGs (X : Cx) (ts : List Expr) (t : TGs) : Prop :=
  ∀ (pins : List (Addr × Obj)) (s : Shared) (σ : St) (H : Hp) (vs : List V) (us : List Value) (Q : St → Hp → Prop), Inv X pins σ H s → Vals vs us → t vs σ H Q →
    wpAny (model X.prog X.w) X.A (assignInOrder ((assignEach ts X.env).map (·.2)) us) (fun _ s' => ∃ σ' H', Inv X pins σ' H' s' ∧ Q σ' H') X.xe s
/-- o[i] = v, by values -/
noncomputable abbrev TSet := V → V → V → Hp → (Hp → Prop) → Prop
noncomputable def PSet (X : Cx) (t : TSet) : Prop :=
  ∀ (pins : List (Addr × Obj)) (s : Shared) (σ : St) (H : Hp) (o i v : V) (ov iv u : Value) (Q : Hp → Prop), Inv X pins σ H s → RelV o ov → RelV i iv → RelV v u → t o i v H Q →
    wpAny (model X.prog X.w) X.A (setItem ov iv u) (fun _ s' => ∃ H', Inv X pins σ H' s' ∧ Q H') X.xe s
/-- a op= b, by values -/
noncomputable abbrev TIp := V → V → Hp → VK → Prop
noncomputable def PIp (X : Cx) (op : Operator) (t : TIp) : Prop :=
  ∀ (pins : List (Addr × Obj)) (s : Shared) (σ : St) (H : Hp) (x y : V) (v u : Value) (Q : VK), Inv X pins σ H s → RelV x v → RelV y u → t x y H Q →
    wpAny (model X.prog X.w) X.A (inplaceOp op v u) (EP X pins σ Q) X.xe s
section
variable {X : Cx} {pos : Pos}
noncomputable def gName (i : Nat) : TG := fun v σ H Q => Q (σ.set i (some v)) H
theorem pg_name {i : Nat} {x : Str} (hN : X.N.Nodup) (hi : X.N[i]? = some x) (hx : Loc X.env.scope x) (hf : X.fn x = true ∨ X.env.scope.names.lookup x = some .local := by first | exact .inl rfl | exact .inr rfl | assumption) : PG X (.Name x pos) (gName i) := by
  intro pins s σ H v u Q I r h
  exact wpAny_assign_Name (store_ok I hN hi hx r (fun s' I' => ⟨_, H, I', h⟩) hf)
noncomputable def gNil : TGs := fun vs σ H Q => vs = [] ∧ Q σ H
noncomputable def gCons (t : TG) (u : TGs) : TGs := fun vs σ H Q => ∃ v r, vs = v :: r ∧ t v σ H fun σ' H' => u r σ' H' Q
theorem pgs_nil : PGs X [] gNil := by
  intro pins s σ H vs us Q I r h
  obtain ⟨e, h⟩ := h
  subst e
  cases r
  exact assignInOrder_nil ⟨σ, H, I, h⟩
theorem pgs_cons {e : Expr} {es : List Expr} {t : TG} {u : TGs} (h1 : PG X e t) (h2 : PGs X es u)
    (hs : (assignEach (e :: es) X.env).map (·.2) = assign e X.env :: (assignEach es X.env).map (·.2) := by rfl) : PGs X (e :: es) (gCons t u) := by
  intro pins s σ H vs us Q I r h
  obtain ⟨v, vr, e1, h⟩ := h
  subst e1
  cases r with
  | cons r rr =>
    rw [hs]
    refine assignInOrder_cons (thn (h1 pins s σ H _ _ _ I r h) fun _ s1 ⟨σ1, H1, I1, q1⟩ => ?_)
    exact h2 pins s1 σ1 H1 _ _ Q I1 rr q1
/-- (a, b, ..) = a tuple of that length -/
noncomputable def gTup (K : PySem.W.Frag) (n : Nat) (t : TGs) : TG := fun v σ H Q => ∃ a xs, v = .ref a ∧ SqT K H a xs ∧ xs.length = n ∧ t xs σ H Q
theorem pg_tup {es : List Expr} {k : Nat} {t : TGs} {n : Nat} (hc : X.calm = true) (h : PGs X es t)
    (hn : (assignEach es X.env).length = n := by rfl) (hst : (assignEach es X.env).findIdx? (·.1) = none := by rfl) : PG X (.Tuple es k pos) (gTup X.K n t) := by
  intro pins s σ H v u Q I r hw
  obtain ⟨a, xs, e1, hq, hl, hw⟩ := hw
  subst e1
  cases r
  obtain ⟨its, rv, ht, hz⟩ := I.tuple hq
  refine assign_Tuple_tuple (I.ok.hd hc) ht (by simp [hn, ← hl, rv.length]) hst fun h' hx => ?_
  have I1 : Inv X pins σ H { s with heap := h' } := I.kept (t' := s.toks) fun b o e => hx b o (Nat.ne_of_lt (Heap.lt_size e)) e
  exact h pins _ σ H xs _ Q I1 (by simpa using rv) hw
/-- o[i] = .. -/
noncomputable def gSub (to ti : TE) (t : TSet) : TG := fun v σ H Q => to σ H fun o H1 => ti σ H1 fun i H2 => t o i v H2 fun H3 => Q σ H3
theorem pg_sub {o i : Expr} {to ti : TE} {t : TSet} (ho : PE X o to) (hi : PE X i ti) (hs : PSet X t)
    (ha : ∀ v, assign (.Subscript o i pos) X.env v = (do
      let ov ← holding [v] (eval o X.env)
      let iv ← holding [v, ov] (eval i X.env)
      standAt pos
      holding [v, ov, iv] (setItem ov iv v)
      release [v, ov, iv] []) := by intro _; rfl) : PG X (.Subscript o i pos) (gSub to ti t) := by
  intro pins s σ H v u Q I r h
  rw [ha]
  refine wpAny_bind (wpAny_holding (thn (ho pins s σ H _ I h) fun ov s1 ⟨x, H1, I1, r1, q1⟩ => ?_))
  refine wpAny_bind (wpAny_holding (thn (hi pins s1 σ H1 _ I1 q1) fun iv s2 ⟨y, H2, I2, r2, q2⟩ => ?_))
  refine wpAny_bind (wpAny_standAt (wpAny_bind (wpAny_holding (thn (hs pins s2 σ H2 x y v ov iv u _ I2 r1 r2 r q2) fun _ s3 ⟨H3, I3, q3⟩ => ?_))))
  exact wpAny_release ⟨σ, H3, I3, q3⟩
/-- target = value -/
noncomputable def tAsg (te : TE) (g : TG) : TS := fun D σ H => te σ H fun x H1 => g x σ H1 D.nx
theorem ps_asg {tg e : Expr} {te : TE} {g : TG} (he : PE X e te) (hg : PG X tg g) (hs : swapsWithSole [tg] e pos.line X.env = pure false := by rfl) (hw : swappedStores [tg] e X.env = pure none := by rfl)
    (h1 : (assignEach [tg] X.env).map (·.2) = [assign tg X.env] := by rfl) : PS X (.Assign [tg] e pos) (tAsg te g) := by
  intro pins s σ H D I h
  refine wpAny_Assign_stores (thn (he pins s σ H _ I h) fun v s1 ⟨x, H1, I1, r1, q1⟩ => ?_) hs hw
  rw [h1]
  exact thn (hg pins s1 σ H1 x v _ I1 r1 q1) fun _ s2 q => q
/-- name = value -/
theorem ps_set {i : Nat} {x : Str} {e : Expr} {te : TE} {pos' : Pos} (hN : X.N.Nodup) (hi : X.N[i]? = some x) (hx : Loc X.env.scope x) (he : PE X e te) (hs : swapsWith e (some (.Name x pos')) pos.line X.env = pure false := by rfl) (hf : X.fn x = true ∨ X.env.scope.names.lookup x = some .local := by first | exact .inl rfl | exact .inr rfl | assumption) :
    PS X (.Assign [.Name x pos'] e pos) (tAsg te (gName i)) := by
  intro pins s σ H D I h
  refine wpAny_Assign_Name (thn (he pins s σ H _ I h) fun v s1 ⟨y, H1, I1, r1, q1⟩ => ?_) hs
  exact store_ok I1 hN hi hx r1 (fun s2 I2 => ⟨_, H1, I2, q1⟩) hf
/-- a, b = x, y with plain local names: stored from the right; the pair itself is not tracked (the opening rows as in PyProof/Rows/TupAssign.lean:23) -/
noncomputable def tPar (i j : Nat) (ta : TA) : TS := fun D σ H => ta σ H fun vs H1 => ∃ v w, vs = [v, w] ∧ D.nx ((σ.set i (some v)).set j (some w)) H1
theorem ps_par {i j : Nat} {x y : Str} {a b : Expr} {ta : TA} {px py pt : Pos} {kt k2 pt2} (hc : X.calm = true) (hN : X.N.Nodup) (hi : X.N[i]? = some x) (hj : X.N[j]? = some y) (hij : i ≠ j)
    (hx : X.env.scope.names.lookup x = some .local) (hy : X.env.scope.names.lookup y = some .local) (ha : PA X [a, b] ta)
    (hw : swappedStores [.Tuple [.Name x px, .Name y py] kt pt] (.Tuple [a, b] k2 pt2) X.env = pure (some [x, y]))
    (hs : swapsWithSole [.Tuple [.Name x px, .Name y py] kt pt] (.Tuple [a, b] k2 pt2) pos.line X.env = pure false := by rfl) :
    PS X (.Assign [.Tuple [.Name x px, .Name y py] kt pt] (.Tuple [a, b] k2 pt2) pos) (tPar i j ta) := by
  intro pins s σ H D I h
  rw [exec_Assign_arm]
  refine wpAny_bind (wpAny_standAt ?_)
  rw [hs]
  refine wpAny_bind (wpAny_pure ?_)
  rw [if_neg (by decide)]
  refine wpAny_bind (Tuple_ (thn (ha _ pins s σ H _ I h) fun us s1 ⟨vs, H1, I1, r1, q1⟩ => ?_))
  obtain ⟨v, w, e1, q1⟩ := q1
  subst e1
  obtain ⟨u1, u2, rfl, rv, rw'⟩ : ∃ u1 u2, us = [u1, u2] ∧ RelV v u1 ∧ RelV w u2 := by
    cases r1 with
    | cons p q =>
      cases q with
      | cons p' q' =>
        cases q'
        exact ⟨_, _, rfl, p, p'⟩
  refine wpAny_newObj_type ?_ (by show 2 ≤ sizeLine; decide)
  have I2 : Inv X pins σ H1 { s1 with heap := s1.heap.push { cls := .type "tuple", data := .seq [u1, u2].toArray } } := I1.kept (t' := s1.toks) fun b o e => Heap.get?_push_of_some _ e
  rw [hw]
  refine wpAny_bind (wpAny_pure ?_)
  show wpAny (model X.prog X.w) X.A (do rule "assign.swapped-stores"; let items ← unpackItems (.ref s1.heap.objs.size) 2 none; assignInOrder [fun v => bindName X.env y v, fun v => bindName X.env x v] items.reverse; pure Flow.next) _ _ _
  refine wpAny_bind (wpAny_rule (wpAny_bind (unpackItems_tuple (items := #[u1, u2]) (I.ok.hd hc) (IsTup.new s1.heap _) fun h' hx' => ?_)))
  have I3 := I2.kept (h' := h') (t' := s1.toks) fun b o e => hx' b o (Nat.ne_of_lt (Heap.lt_size e)) e
  show wpAny _ _ (assignInOrder [fun v => bindName X.env y v, fun v => bindName X.env x v] [u2, u1] >>= fun _ => pure Flow.next) _ _ _
  refine wpAny_bind (assignInOrder_cons (wpAny_bindName (store_ok I3 hN hj (.inl hy) rw' (fun s2 I4 => ?_) (.inr hy))))
  refine assignInOrder_cons (wpAny_bindName (store_ok I4 hN hi (.inl hx) rv (fun s3 I5 => assignInOrder_nil (wpAny_pure ?_)) (.inr hx)))
  rw [List.set_comm _ _ (Ne.symm hij)] at I5
  exact ⟨_, H1, I5, q1⟩
/-- name op= e -/
noncomputable def tAug (i : Nat) (te : TE) (ti : TIp) : TS := fun D σ H => ∃ x, σ[i]? = some (some x) ∧ te σ H fun y H1 => ti x y H1 fun z H2 => D.nx (σ.set i (some z)) H2
theorem ps_aug {i : Nat} {x : Str} {e : Expr} {te : TE} {op : Operator} {ti : TIp} {pos' : Pos} (hN : X.N.Nodup) (hi : X.N[i]? = some x) (hx : Loc X.env.scope x) (he : PE X e te) (ho : PIp X op ti) (hf : X.fn x = true ∨ X.env.scope.names.lookup x = some .local := by first | exact .inl rfl | exact .inr rfl | assumption) :
    PS X (.AugAssign (.Name x pos') op e pos) (tAug i te ti) := by
  intro pins s σ H D I h
  obtain ⟨v, e1, h⟩ := h
  obtain ⟨m, hn, hl⟩ := I.loc
  have vis : Vis X.env.scope x := by rcases hx with k | k; exact .inl k; exact .inr (.inl k)
  obtain ⟨u, r, l⟩ := hl i x v hi e1 vis
  refine wpAny_AugAssign_Name ?_
  have go : wpAny (model X.prog X.w) X.A (eval e X.env) (fun w s₂ => wpAny (model X.prog X.w) X.A (inplaceOp op u w) (fun r s₃ => wpAny (model X.prog X.w) X.A (storeName X.env x r) (fun _ => SP X pins D .next) X.xe s₃) X.xe s₂) X.xe s := by
    refine thn (he pins s σ H _ I h) fun w s1 ⟨y, H1, I1, r1, q1⟩ => ?_
    refine thn (ho pins s1 σ H1 v y u w _ I1 r r1 q1) fun z s2 ⟨zv, H2, I2, r2, q2⟩ => ?_
    exact store_ok I2 hN hi hx r2 (fun s3 I3 => ⟨_, H2, I3, q2⟩) hf
  rcases l with ⟨hk, hm⟩ | ⟨hk, c, hc, hcell⟩
  · exact wpAny_loadName_local I.ok.kind hk hn hm go
  · rcases hk with hk | hk
    · exact wpAny_loadName_cell I.ok.kind hk hc hcell go
    · rcases hx with k | k
      · have : X.env.scope.names.lookup x = some .free := hk
        rw [k] at this; cases this
      · have : X.env.scope.names.lookup x = some .free := hk
        rw [k] at this; cases this
/-- ints -/
noncomputable def ipI (f : Int → Int → Int) : TIp := fun x y H Q => ∃ i j, x = .int i ∧ y = .int j ∧ Q (.int (f i j)) H
theorem ip_add : PIp X .Add (ipI fun i j => i + j) := by
  intro pins s σ H x y v u Q I r1 r2 h
  obtain ⟨i, j, e1, e2, q⟩ := h
  subst e1; subst e2
  obtain ⟨t, rfl⟩ := r1
  obtain ⟨t', rfl⟩ := r2
  exact iadd_int ⟨.int _, H, I.tok _, ⟨_, rfl⟩, q⟩
theorem ip_sub : PIp X .Sub (ipI fun i j => i - j) := by
  intro pins s σ H x y v u Q I r1 r2 h
  obtain ⟨i, j, e1, e2, q⟩ := h
  subst e1; subst e2
  obtain ⟨t, rfl⟩ := r1
  obtain ⟨t', rfl⟩ := r2
  exact isub_int ⟨.int _, H, I.tok _, ⟨_, rfl⟩, q⟩
end

/-! ### while -/
section
variable {X : Cx} {pos : Pos}
/-- the invariant W with its measure -/
noncomputable def tWhile (c : TT) (tb : TS) : TS := fun D σ H => ∃ W : Nat → St → Hp → Prop, (∃ m, W m σ H) ∧ ∀ m σ H, W m σ H →
  c σ H fun b H1 => if b = true then ∃ N : St → Hp → Prop, (∀ σ' H', N σ' H' → ∃ m', m' < m ∧ W m' σ' H') ∧ tb { D with nx := N, ct := N, bk := D.nx } σ H1 else D.nx σ H1
theorem ps_while {c : Expr} {body : List Stmt} {tc : TT} {tb : TS} (hp : PassesOwn (model X.prog X.w) X.A X.env X.xe) (hc : PT X c tc) (hb : PSs X body tb) : PS X (.While c body [] pos) (tWhile tc tb) := by
  intro pins s σ H D I h
  obtain ⟨W, ⟨m0, w0⟩, turn⟩ := h
  refine wpAny_While (codeAny_whileLoop (fun n s' => ∃ σ' H', Inv X pins σ' H' s' ∧ W n σ' H') ?_ m0 ⟨σ, H, I, w0⟩)
  rintro n s1 ⟨σ1, H1, I1, w1⟩
  refine wpAny_passesOwn hp (thn (hc pins s1 σ1 H1 _ I1 (turn n σ1 H1 w1)) fun b s2 ⟨H2, I2, q2⟩ => ?_)
  cases b with
  | true =>
    obtain ⟨N, hN, q2⟩ := q2
    rw [if_pos rfl]
    refine wpAny_passesOwn hp (thn (hb pins s2 σ1 H2 _ I2 q2) fun f s3 q3 => ?_)
    cases f with
    | next =>
      obtain ⟨σ3, H3, I3, n3⟩ := q3
      obtain ⟨m', hm, w3⟩ := hN σ3 H3 n3
      exact ⟨m', hm, σ3, H3, I3, w3⟩
    | cont =>
      obtain ⟨σ3, H3, I3, n3⟩ := q3
      obtain ⟨m', hm, w3⟩ := hN σ3 H3 n3
      exact ⟨m', hm, σ3, H3, I3, w3⟩
    | brk => exact q3
    | ret v => exact q3
  | false =>
    rw [if_neg Bool.false_ne_true]
    exact wpAny_execs_nil ⟨σ1, H2, I2, q2⟩
end

/-! ### what a loop or a comprehension walks -/
/-- at turn i: it yields x (the heap may grow), or it stops -/
structure It where
  go : Nat → Hp → Prop
  yld : Nat → Hp → V → Hp → Prop
  stop : Nat → Hp → Prop
/-- the iterator's own objects may turn: they are not the frame's, not pinned, younger than the entry (or a comprehension's own) -/
noncomputable def FpOk (X : Cx) (pins : List (Addr × Obj)) (H : Hp) (b : Addr) : Prop :=
  H b = none ∧ b ≠ X.env.locals ∧ b ∉ X.fs ∧ (b ∈ X.ex ∨ X.s₀.heap.objs.size ≤ b) ∧ (∀ x c, X.env.cells.lookup x = some c → c ≠ b) ∧ ∀ p ∈ X.pn ++ pins, p.1 ≠ b
theorem Inv.fpOk {X : Cx} {pins : List (Addr × Obj)} {σ : St} {H H' : Hp} {s : Shared} {b : Addr} (I : Inv X pins σ H s) (hb : s.heap.objs.size ≤ b) (hn : H' b = none) : FpOk X pins H' b := by
  refine ⟨hn, Nat.ne_of_gt (Nat.lt_of_lt_of_le I.lt hb), I.nofs hb, .inr (Nat.le_trans I.sz hb), fun x c e z => ?_, fun p hp z => ?_⟩
  · obtain ⟨v, q⟩ := I.cell x c e
    exact absurd (Nat.lt_of_lt_of_le q.lt (by rw [z]; exact hb)) (Nat.lt_irrefl _)
  · exact absurd (Nat.lt_of_lt_of_le (Heap.lt_size (I.pin p hp).1) (by rw [z]; exact hb)) (Nat.lt_irrefl _)
structure Turn (P : Program) (w : World) (K : PySem.W.Frag) (tg : Expr) (J : It) (fp : List Addr) (it : Addr) (tn : Nat → Heap → Prop) : Prop where
  mem : it ∈ fp
  obj : ∀ i h, tn i h → ∀ b ∈ fp, ∃ o, h.get? b = some o ∧ ∀ v, o.data ≠ .cell v
  keep : ∀ i h h', tn i h → (∀ b ∈ fp, ∀ o, h.get? b = some o → h'.get? b = some o) → tn i h'
  item : ∀ (X : Cx), X.prog = P → X.w = w → X.K = K → X.calm = true → ∀ (i : Nat) (pins : List (Addr × Obj)) (s : Shared) (σ : St) (H : Hp) (E : Value → Shared → Prop), Inv X pins σ H s → (∀ b ∈ fp, FpOk X pins H b) → tn i s.heap → J.go i H →
    wpAny (model P w) X.A (pyNext (.ref it)) (fun r s1 => ∃ u, r = some u ∧
      wpAny (model P w) X.A (letOwnedTupleGo tg (.ref it) u) (fun _ s2 => ∃ x H', Inv X pins σ H' s2 ∧ RelV x u ∧ J.yld i H x H' ∧ tn (i + 1) s2.heap ∧ ∀ b ∈ fp, H' b = none) E s1) E s
  done : ∀ (X : Cx), X.prog = P → X.w = w → X.K = K → X.calm = true → ∀ (i : Nat) (pins : List (Addr × Obj)) (s : Shared) (σ : St) (H : Hp) (E : Value → Shared → Prop), Inv X pins σ H s → (∀ b ∈ fp, FpOk X pins H b) → tn i s.heap → J.stop i H →
    wpAny (model P w) X.A (pyNext (.ref it)) (fun r s1 => r = none ∧ Inv X pins σ H s1) E s
  self : ∀ (A : Around) (i : Nat) (s : Shared) (Q : Value → Shared → Prop) (E : Value → Shared → Prop), tn i s.heap → Q (.ref it) s → wpAny (model P w) A (pyIter (.ref it)) Q E s
noncomputable abbrev TI := St → Hp → (It → Hp → Prop) → Prop
/-- an iterator has come -/
noncomputable def PIE (X : Cx) (pins : List (Addr × Obj)) (σ : St) (tg : Expr) (R : It → Hp → Prop) (itv : Value) (s2 : Shared) : Prop :=
  ∃ (it : Addr) (fp : List Addr) (tn : Nat → Heap → Prop) (J : It) (H' : Hp), itv = .ref it ∧ Inv X pins σ H' s2 ∧ Turn X.prog X.w X.K tg J fp it tn ∧ tn 0 s2.heap ∧ (∀ b ∈ fp, FpOk X pins H' b) ∧ R J H'
noncomputable def PI (X : Cx) (tg iter : Expr) (wi : TI) : Prop :=
  ∀ (pins : List (Addr × Obj)) (s : Shared) (σ : St) (H : Hp) (R : It → Hp → Prop), Inv X pins σ H s → wi σ H R →
    wpAny (model X.prog X.w) X.A (eval iter X.env) (fun v s1 => wpAny (model X.prog X.w) X.A (pyIter v) (PIE X pins σ tg R) X.xe s1) X.xe s

/-- the step ahead of the store is nothing for an iterator that keeps no tuple -/
theorem go_of {M : Model} {A : Around} {E : Value → Shared → Prop} {s : Shared} {tg : Expr} {it : Addr} {u : Value} {o : Obj} {n : String} {vs : Array Value} {Q : Unit → Shared → Prop} (ho : s.heap.get? it = some o) (hc : o.cls = .type n) (hd : o.data = .fields vs)
    (hn : ["enumerate", "zip", "dict_itemiterator", "dict_reverseitemiterator", "odict_iterator", "itertools.zip_longest", "itertools.pairwise"].contains n = false) (hQ : Q () s) : wpAny M A (letOwnedTupleGo tg (.ref it) u) Q E s := by
  unfold letOwnedTupleGo
  cases tg <;> first
    | exact wpAny_pure hQ
    | (cases u <;> first
        | exact wpAny_pure hQ
        | (refine wpAny_bind (wpAny_load ho ?_)
           rw [hc, hd]
           show wpAny M A (if (["enumerate", "zip", "dict_itemiterator", "dict_reverseitemiterator", "odict_iterator", "itertools.zip_longest", "itertools.pairwise"].contains n && vs[0]? == some (rawInt _)) = true then _ else _) Q E s
           rw [if_neg (by intro h; rw [hn, Bool.false_and] at h; cases h)]
           exact wpAny_pure hQ))

/-- the list at a, as it stands at each turn (a loop may append to it) -/
noncomputable def Itl (K : PySem.W.Frag) (a : Addr) : It :=
  ⟨fun i H => ∃ xs x, SqL K H a xs ∧ xs[i]? = some x, fun i H x H' => H' = H ∧ ∀ xs, SqL K H a xs → xs[i]? = some x, fun i H => ∃ xs, SqL K H a xs ∧ xs.length ≤ i⟩
noncomputable def Itt (K : PySem.W.Frag) (a : Addr) : It :=
  ⟨fun i H => ∃ xs x, SqT K H a xs ∧ xs[i]? = some x, fun i H x H' => H' = H ∧ ∀ xs, SqT K H a xs → xs[i]? = some x, fun i H => ∃ xs, SqT K H a xs ∧ xs.length ≤ i⟩
/-- lo, lo + 1, .. (n of them) -/
noncomputable def Itr (lo : Int) (n : Nat) : It := ⟨fun i _ => i < n, fun i H x H' => H' = H ∧ x = .int (lo + i), fun i _ => n ≤ i⟩
theorem turn_list {P : Program} {w : World} {K : PySem.W.Frag} {tg : Expr} (a it : Addr) : Turn P w K tg (Itl K a) [it] it (fun i h => h.IsListIter it a i) where
  mem := by simp
  obj := fun i h st b hb => by
    have e : b = it := by simpa using hb
    subst e
    obtain ⟨o, e, c, d⟩ := st
    exact ⟨o, e, fun v z => by rw [d] at z; cases z⟩
  keep := fun i h h' st k => st.at fun o e => k it (by simp) o e
  item := by
    intro X hP hw hK hc i pins s σ H E I hf st hg
    subst hP hw hK
    obtain ⟨xs, x, hq, hx⟩ := hg
    obtain ⟨its, rv, p, hz⟩ := I.list hq
    obtain ⟨u, hu, ru⟩ := rv.get hx
    obtain ⟨f0, f1, f2, f3, f4, f5⟩ := hf it (by simp)
    refine wpAny_pyNext_list_item st p.isList (x := u) (by simpa using hu) fun h' st' sb => ?_
    have I1 : Inv X pins σ H { s with heap := h' } := I.turned (t' := s.toks) (fun b o hb e => (sb.2 b hb).trans e) f0 f1 f3 f4 f5
    obtain ⟨o, e, c, d⟩ := id st'
    exact ⟨u, rfl, go_of (s := { s with heap := h' }) e c d (by decide) ⟨x, H, I1, ru, ⟨rfl, fun ys hy => by rw [I.list_inj hy hq]; exact hx⟩, st', fun b hb => (hf b hb).1⟩⟩
  done := by
    intro X hP hw hK hc i pins s σ H E I hf st hg
    subst hP hw hK
    obtain ⟨xs, hq, hx⟩ := hg
    obtain ⟨its, rv, p, hz⟩ := I.list hq
    obtain ⟨f0, f1, f2, f3, f4, f5⟩ := hf it (by simp)
    have hl := rv.length
    exact wpAny_pyNext_list_end (I.ok.hd hc) st p.isList (by simp; omega) fun h' eb => ⟨rfl, I.turned (t' := s.toks) (fun b o hb e => eb b o hb e) f0 f1 f3 f4 f5⟩
  self := fun _ _ _ _ _ st h => wpAny_pyIter_listiter st h
theorem turn_tuple {P : Program} {w : World} {K : PySem.W.Frag} {tg : Expr} (a it : Addr) : Turn P w K tg (Itt K a) [it] it (fun i h => h.IsTupleIter it a i) where
  mem := by simp
  obj := fun i h st b hb => by
    have e : b = it := by simpa using hb
    subst e
    obtain ⟨o, e, c, d⟩ := st
    exact ⟨o, e, fun v z => by rw [d] at z; cases z⟩
  keep := fun i h h' st k => st.at fun o e => k it (by simp) o e
  item := by
    intro X hP hw hK hc i pins s σ H E I hf st hg
    subst hP hw hK
    obtain ⟨xs, x, hq, hx⟩ := hg
    obtain ⟨its, rv, p, hz⟩ := I.tuple hq
    obtain ⟨u, hu, ru⟩ := rv.get hx
    obtain ⟨f0, f1, f2, f3, f4, f5⟩ := hf it (by simp)
    refine wpAny_pyNext_tuple_item st (show s.heap.IsTuple a its.toArray from p) (x := u) (by simpa using hu) fun h' st' sb => ?_
    have I1 : Inv X pins σ H { s with heap := h' } := I.turned (t' := s.toks) (fun b o hb e => (sb.2 b hb).trans e) f0 f1 f3 f4 f5
    obtain ⟨o, e, c, d⟩ := id st'
    exact ⟨u, rfl, go_of (s := { s with heap := h' }) e c d (by decide) ⟨x, H, I1, ru, ⟨rfl, fun ys hy => by rw [I.tuple_inj hy hq]; exact hx⟩, st', fun b hb => (hf b hb).1⟩⟩
  done := by
    intro X hP hw hK hc i pins s σ H E I hf st hg
    subst hP hw hK
    obtain ⟨xs, hq, hx⟩ := hg
    obtain ⟨its, rv, p, hz⟩ := I.tuple hq
    obtain ⟨f0, f1, f2, f3, f4, f5⟩ := hf it (by simp)
    have hl := rv.length
    exact wpAny_pyNext_tuple_end (I.ok.hd hc) st (show s.heap.IsTuple a its.toArray from p) (by simp; omega) fun h' eb => ⟨rfl, I.turned (t' := s.toks) (fun b o hb e => eb b o hb e) f0 f1 f3 f4 f5⟩
  self := fun _ _ _ _ _ st h => wpAny_pyIter_tupleiter st h
theorem turn_range {P : Program} {w : World} {K : PySem.W.Frag} {tg : Expr} (it : Addr) (lo : Int) (n : Nat) : Turn P w K tg (Itr lo n) [it] it (fun i h => IsRangeIter h it (lo + (i : Nat) * 1) ((n : Int) - (i : Nat)) 1) where
  mem := by simp
  obj := fun i h st b hb => by
    have e : b = it := by simpa using hb
    subst e
    exact ⟨_, st, fun v z => by
      have z' : Data.fields _ = Data.cell v := z
      cases z'⟩
  keep := fun i h h' st k => k it (by simp) _ st
  item := by
    intro X hP hw hK hc i pins s σ H E I hf st hg
    subst hP hw hK
    obtain ⟨f0, f1, f2, f3, f4, f5⟩ := hf it (by simp)
    have W := Walks.range (prog := X.prog) (w := X.w) (I.ok.hd hc) it lo 1 n
    refine W.item i s _ _ hg st fun v h' tk hv st' kk => ?_
    obtain ⟨t, rfl⟩ := hv
    have I1 : Inv X pins σ H { s with heap := h', toks := tk } := I.turned (fun b o hb e => kk b o (by simpa using hb) e) f0 f1 f3 f4 f5
    refine ⟨_, rfl, go_of (s := { s with heap := h', toks := tk }) (n := "range_iterator") st' rfl rfl (by decide) ⟨.int (lo + i), H, I1, ⟨t, ?_⟩, ⟨rfl, rfl⟩, st', fun b hb => (hf b hb).1⟩⟩
    rw [Int.mul_one]
  done := by
    intro X hP hw hK hc i pins s σ H E I hf st hg
    subst hP hw hK
    obtain ⟨f0, f1, f2, f3, f4, f5⟩ := hf it (by simp)
    exact wpAny_pyNext_range_end (I.ok.hd hc) st (by have : n ≤ i := hg; omega) fun h' eb => ⟨rfl, I.turned (t' := s.toks) (fun b o hb e => eb b o hb e) f0 f1 f3 f4 f5⟩
  self := fun _ _ _ _ _ st h => wpAny_pyIter_rangeiter st h
end L2

namespace L2
open PySem PySem.Spec PyProof.Rows
section
variable {X : Cx} {tg : Expr}
noncomputable def iList (K : PySem.W.Frag) (tl : TE) : TI := fun σ H R => tl σ H fun x H1 => ∃ a, x = .ref a ∧ (∃ xs, SqL K H1 a xs) ∧ R (Itl K a) H1
noncomputable def iTup (K : PySem.W.Frag) (tl : TE) : TI := fun σ H R => tl σ H fun x H1 => ∃ a, x = .ref a ∧ (∃ xs, SqT K H1 a xs) ∧ R (Itt K a) H1
theorem pi_list {l : Expr} {tl : TE} (hl : PE X l tl) : PI X tg l (iList X.K tl) := by
  intro pins s σ H R I h
  refine thn (hl pins s σ H _ I h) fun v s1 ⟨x, H1, I1, r1, q1⟩ => ?_
  obtain ⟨a, e, ⟨xs, hq⟩, q⟩ := q1
  subst e
  cases r1
  obtain ⟨its, rv, p, hz⟩ := I1.list hq
  refine wpAny_pyIter_list p.isList ?_
  refine ⟨s1.heap.objs.size, [s1.heap.objs.size], _, _, H1, rfl, I1.kept (t' := s1.toks) fun b o e => Heap.get?_push_of_some _ e, turn_list a _, ⟨_, Heap.get?_push_size _ rfl, rfl, rfl⟩, fun b hb => ?_, q⟩
  have e : b = s1.heap.objs.size := by simpa using hb
  subst e
  exact I1.fpOk (Nat.le_refl _) (I1.hok.fresh (Nat.le_refl _))
theorem pi_tup {l : Expr} {tl : TE} (hl : PE X l tl) : PI X tg l (iTup X.K tl) := by
  intro pins s σ H R I h
  refine thn (hl pins s σ H _ I h) fun v s1 ⟨x, H1, I1, r1, q1⟩ => ?_
  obtain ⟨a, e, ⟨xs, hq⟩, q⟩ := q1
  subst e
  cases r1
  obtain ⟨its, rv, p, hz⟩ := I1.tuple hq
  refine wpAny_pyIter_tuple (show s1.heap.IsTuple a its.toArray from p) ?_
  refine ⟨s1.heap.objs.size, [s1.heap.objs.size], _, _, H1, rfl, I1.kept (t' := s1.toks) fun b o e => Heap.get?_push_of_some _ e, turn_tuple a _, ⟨_, Heap.get?_push_size _ rfl, rfl, rfl⟩, fun b hb => ?_, q⟩
  have e : b = s1.heap.objs.size := by simpa using hb
  subst e
  exact I1.fpOk (Nat.le_refl _) (I1.hok.fresh (Nat.le_refl _))
/-- a range object just made, walked -/
theorem range_it {pins : List (Addr × Obj)} {σ : St} {H : Hp} {s : Shared} {R : It → Hp → Prop} {E : Value → Shared → Prop} {lo hi : Int} {t u v : Tok} {tk : Nat} (I : Inv X pins σ H s) (h1 : -(2 ^ 62) ≤ lo) (h2 : lo < 2 ^ 62) (h3 : -(2 ^ 62) ≤ hi) (h4 : hi < 2 ^ 62)
    (q : R (Itr lo (hi - lo).toNat) H) : wpAny (model X.prog X.w) X.A (pyIter (.ref s.heap.objs.size)) (PIE X pins σ tg R) E { s with heap := s.heap.push { cls := .type "range", data := .fields #[.int lo t, .int hi u, .int 1 v] }, toks := tk } := by
  refine wpAny_pyIter_range (IsRange.new ..) (small_one h1 h2 h3 h4) ?_
  have I1 : Inv X pins σ H { s with heap := s.heap.push { cls := .type "range", data := .fields #[.int lo t, .int hi u, .int 1 v] }, toks := tk } := I.kept fun b o e => Heap.get?_push_of_some _ e
  refine ⟨(s.heap.push { cls := .type "range", data := .fields #[.int lo t, .int hi u, .int 1 v] }).objs.size, [(s.heap.push { cls := .type "range", data := .fields #[.int lo t, .int hi u, .int 1 v] }).objs.size], _, _, H, rfl,
    I1.kept (t' := tk) fun b o e => Heap.get?_push_of_some _ e, turn_range _ lo (hi - lo).toNat, ?_, fun b hb => ?_, q⟩
  · have e1 : lo + ((0 : Nat) : Int) * 1 = lo := by simp
    have e2 : (((hi - lo).toNat : Nat) : Int) - ((0 : Nat) : Int) = Builtin.Range.rangeSize lo hi 1 := by rw [rangeSize_one]; split <;> omega
    show IsRangeIter _ _ (lo + ((0 : Nat) : Int) * 1) ((((hi - lo).toNat : Nat) : Int) - ((0 : Nat) : Int)) 1
    rw [e1, e2]
    exact Heap.get?_push_size _ rfl
  · have e : b = (s.heap.push { cls := .type "range", data := .fields #[.int lo t, .int hi u, .int 1 v] }).objs.size := by simpa using hb
    subst e
    exact I1.fpOk (Nat.le_refl _) (I1.hok.fresh (Nat.le_refl _))
noncomputable def iRng1 (ta : TA) : TI := fun σ H R => ta σ H fun vs H1 => ∃ j : Int, vs = [.int j] ∧ -(2 ^ 62) ≤ j ∧ j < 2 ^ 62 ∧ R (Itr 0 j.toNat) H1
noncomputable def iRng2 (ta : TA) : TI := fun σ H R => ta σ H fun vs H1 => ∃ i j : Int, vs = [.int i, .int j] ∧ (-(2 ^ 62) ≤ i ∧ i < 2 ^ 62 ∧ -(2 ^ 62) ≤ j ∧ j < 2 ^ 62) ∧ R (Itr i (j - i).toNat) H1
theorem pi_range1 {a : Expr} {ta : TA} {p pos : Pos} (hg : Gl X "range") (hm : X.mg "range" = none) (ha : PA X [a] ta) (hs : starEach [a] X.env = [(false, eval a X.env)] := by rfl) : PI X tg (.Call (.Name "range" p) [a] [] pos) (iRng1 ta) := by
  intro pins s σ H R I h
  refine Call_ (ld_blt I hg hm boot_range (PyProof.Rows.callWith_type1 (thn (ha pos pins s σ H _ I h) fun us s1 ⟨vs, H1, I1, r1, q1⟩ => ?_) hs rfl))
  obtain ⟨j, e, q1, q2, q⟩ := q1
  subst e
  cases r1 with
  | cons r rr =>
    cases rr
    obtain ⟨t, rfl⟩ := r
    exact call_range_1 (range_it I1 (by omega) (by omega) q1 q2 (by simpa using q))
theorem pi_range2 {a b : Expr} {ta : TA} {p pos : Pos} (hg : Gl X "range") (hm : X.mg "range" = none) (ha : PA X [a, b] ta) (hs : starEach [a, b] X.env = [(false, eval a X.env), (false, eval b X.env)] := by rfl) (hs2 : starEach [b] X.env = [(false, eval b X.env)] := by rfl) :
    PI X tg (.Call (.Name "range" p) [a, b] [] pos) (iRng2 ta) := by
  intro pins s σ H R I h
  refine Call_ (ld_blt I hg hm boot_range (PyProof.Rows.callWith_type1 (thn (ha pos pins s σ H _ I h) fun us s1 ⟨vs, H1, I1, r1, q1⟩ => ?_) (by rw [hs, hs2]) (by rw [hs2]; rfl)))
  obtain ⟨i, j, e, ⟨q1, q2, q3, q4⟩, q⟩ := q1
  subst e
  cases r1 with
  | cons r rr =>
    cases rr with
    | cons r' rr =>
      cases rr
      obtain ⟨t, rfl⟩ := r
      obtain ⟨t', rfl⟩ := r'
      exact call_range_2 (range_it I1 q1 q2 q3 q4 q)

/-! ### for -/
/-- W: the invariant by the turn and a measure; N: what the body is to reach -/
noncomputable def tFor (wi : TI) (g : TG) (tb : TS) : TS := fun D σ H => wi σ H fun J H1 => ∃ W : Nat → Nat → St → Hp → Prop, (∃ m, W 0 m σ H1) ∧ ∀ i m σ H, W i m σ H →
  (J.stop i H ∧ D.nx σ H) ∨ (J.go i H ∧ ∃ N : St → Hp → Prop, (∀ σ' H', N σ' H' → ∃ m', m' < m ∧ W (i + 1) m' σ' H') ∧ ∀ x H', J.yld i H x H' → g x σ H' fun σ2 H2 => tb { D with nx := N, ct := N, bk := D.nx } σ2 H2)
/-- the records at fp as they stand -/
noncomputable def pinsAt (fp : List Addr) (h : Heap) : List (Addr × Obj) := fp.filterMap fun b => (h.get? b).map fun o => (b, o)
theorem mem_pinsAt {fp : List Addr} {h : Heap} {b : Addr} {o : Obj} (hb : b ∈ fp) (e : h.get? b = some o) : (b, o) ∈ pinsAt fp h := List.mem_filterMap.mpr ⟨b, hb, by rw [e]; rfl⟩
theorem of_pinsAt {fp : List Addr} {h : Heap} {p : Addr × Obj} (hp : p ∈ pinsAt fp h) : p.1 ∈ fp ∧ h.get? p.1 = some p.2 := by
  obtain ⟨b, hb, e⟩ := List.mem_filterMap.mp hp
  cases q : h.get? b with
  | none => rw [q] at e; cases e
  | some o =>
    rw [q] at e
    have e' : (b, o) = p := Option.some.inj e
    subst e'
    exact ⟨hb, q⟩
theorem Inv.pinned {pins : List (Addr × Obj)} {σ : St} {H : Hp} {s : Shared} {fp : List Addr} (I : Inv X pins σ H s) (hf : ∀ b ∈ fp, FpOk X pins H b) (ho : ∀ b ∈ fp, ∃ o, s.heap.get? b = some o ∧ ∀ v, o.data ≠ .cell v) : Inv X (pins ++ pinsAt fp s.heap) σ H s :=
  I.pins_of fun p hp => (List.mem_append.mp hp).elim (fun z => I.pin p (List.mem_append_right _ z)) fun z => by
    obtain ⟨hb, e⟩ := of_pinsAt z
    obtain ⟨f0, f1, f2, _⟩ := hf p.1 hb
    obtain ⟨o, e', d⟩ := ho p.1 hb
    rw [e] at e'; cases e'
    exact ⟨e, f0, f1, f2, d⟩
theorem Inv.unpinned {pins pl : List (Addr × Obj)} {σ : St} {H : Hp} {s : Shared} (I : Inv X (pins ++ pl) σ H s) : Inv X pins σ H s := I.pins_of fun p hp => I.pin p (List.mem_append_right _ (List.mem_append_left _ hp))
theorem ps_for {iter : Expr} {body : List Stmt} {wi : TI} {g : TG} {tb : TS} {pos : Pos} (hp : PassesOwn (model X.prog X.w) X.A X.env X.xe) (hc : X.calm = true) (hi : PI X tg iter wi) (hg : PG X tg g) (hb : PSs X body tb)
    (hs : ∀ x, foldedSetIterable iter X.env x = pure x := by intro _; rfl) : PS X (.For tg iter body [] pos) (tFor wi g tb) := by
  intro pins s σ H D I h
  refine wpAny_For (thn (hi pins s σ H _ I h) fun v s1 h1 => thn h1 fun itv s2 h2 => ?_) hs
  obtain ⟨it, fp, tn, J, H2, e, I2, T, st2, f2, W, ⟨m0, w0⟩, turn⟩ := h2
  subst e
  -- what stays true of the iterator's objects through the loop
  have stat : ∀ {H' : Hp}, (∀ b ∈ fp, H' b = none) → ∀ b ∈ fp, FpOk X pins H' b := fun hn b hb => ⟨hn b hb, (f2 b hb).2⟩
  refine codeAny_forLoop_any (fun n s' => ∃ i σ' H', Inv X pins σ' H' s' ∧ tn i s'.heap ∧ (∀ b ∈ fp, H' b = none) ∧ W i n σ' H') ?_ m0 ⟨0, σ, H2, I2, st2, fun b hb => (f2 b hb).1, w0⟩
  rintro n s3 ⟨i, σ3, H3, I3, st3, fr3, w3⟩
  rcases turn i n σ3 H3 w3 with ⟨stop, qn⟩ | ⟨go, N, hN, step⟩
  · refine wpAny_passesOwn hp (thn (T.done X rfl rfl rfl hc i pins s3 σ3 H3 X.xe I3 (stat fr3) st3 stop) fun r s4 ⟨hr, I4⟩ => ?_)
    subst hr
    exact wpAny_execs_nil ⟨σ3, H3, I4, qn⟩
  · refine wpAny_passesOwn hp (thn (T.item X rfl rfl rfl hc i pins s3 σ3 H3 X.xe I3 (stat fr3) st3 go) fun r s4 ⟨u, hr, h4⟩ => ?_)
    subst hr
    refine wpAny_passesOwn hp (thn h4 fun _ s5 ⟨x, H5, I5, r5, y5, st5, fr5⟩ => ?_)
    have I5' := I5.pinned (stat fr5) (T.obj _ _ st5)
    refine wpAny_passesOwn hp (thn (hg _ s5 σ3 H5 x u _ I5' r5 (step x H5 y5)) fun _ s6 ⟨σ6, H6, I6, q6⟩ => ?_)
    refine wpAny_passesOwn hp (thn (hb _ s6 σ6 H6 _ I6 q6) fun f s7 q7 => ?_)
    have again : ∀ {σ7 : St} {H7 : Hp}, Inv X (pins ++ pinsAt fp s5.heap) σ7 H7 s7 → N σ7 H7 → ∃ m, m < n ∧ ∃ i σ' H', Inv X pins σ' H' s7 ∧ tn i s7.heap ∧ (∀ b ∈ fp, H' b = none) ∧ W i m σ' H' := fun {σ7 H7} I7 n7 => by
      obtain ⟨m', hm, w7⟩ := hN σ7 H7 n7
      refine ⟨m', hm, i + 1, σ7, H7, I7.unpinned, T.keep _ _ _ st5 fun b hb o e => (I7.pin (b, o) (List.mem_append_right _ (List.mem_append_right _ (mem_pinsAt hb e)))).1, fun b hb => ?_, w7⟩
      obtain ⟨o, e, d⟩ := T.obj _ _ st5 b hb
      exact (I7.pin (b, o) (List.mem_append_right _ (List.mem_append_right _ (mem_pinsAt hb e)))).2.1
    cases f with
    | next => obtain ⟨σ7, H7, I7, n7⟩ := q7; exact again I7 n7
    | cont => obtain ⟨σ7, H7, I7, n7⟩ := q7; exact again I7 n7
    | brk => obtain ⟨σ7, H7, I7, q7⟩ := q7; exact ⟨σ7, H7, I7.unpinned, q7⟩
    | ret v => obtain ⟨x7, σ7, H7, I7, r7, q7⟩ := q7; exact ⟨x7, σ7, H7, I7.unpinned, r7, q7⟩
end

/-! ### the forms one uses -/
/-- over a list that the body leaves as it is -/
theorem for_list {K : PySem.W.Frag} {a : Addr} {xs : List V} {g : TG} {tb : TS} {D : Ends} {σ : St} {H : Hp} (Pv : Nat → St → Hp → Prop) (h0 : Pv 0 σ H) (hl : ∀ i σ H, i ≤ xs.length → Pv i σ H → SqL K H a xs)
    (hs : ∀ i x σ H, xs[i]? = some x → Pv i σ H → g x σ H fun σ2 H2 => tb { D with nx := Pv (i + 1), ct := Pv (i + 1), bk := D.nx } σ2 H2) (hd : ∀ σ H, Pv xs.length σ H → D.nx σ H) :
    ∃ W : Nat → Nat → St → Hp → Prop, (∃ m, W 0 m σ H) ∧ ∀ i m σ H, W i m σ H →
      ((Itl K a).stop i H ∧ D.nx σ H) ∨ ((Itl K a).go i H ∧ ∃ N : St → Hp → Prop, (∀ σ' H', N σ' H' → ∃ m', m' < m ∧ W (i + 1) m' σ' H') ∧ ∀ x H', (Itl K a).yld i H x H' → g x σ H' fun σ2 H2 => tb { D with nx := N, ct := N, bk := D.nx } σ2 H2) := by
  refine ⟨fun i m σ H => m = xs.length - i ∧ i ≤ xs.length ∧ Pv i σ H, ⟨xs.length, by simp, Nat.zero_le _, h0⟩, ?_⟩
  rintro i m σ H ⟨rfl, hi, p⟩
  have q := hl i σ H hi p
  by_cases hlt : i < xs.length
  · refine .inr ⟨⟨xs, xs[i], q, by simp [hlt]⟩, Pv (i + 1), fun σ' H' p' => ⟨xs.length - (i + 1), by omega, rfl, hlt, p'⟩, fun x H' y => ?_⟩
    obtain ⟨e, y⟩ := y
    subst e
    exact hs i x σ _ (y xs q) p
  · have e : i = xs.length := by omega
    subst e
    exact .inl ⟨⟨xs, q, Nat.le_refl _⟩, hd σ H p⟩
theorem for_tup {K : PySem.W.Frag} {a : Addr} {xs : List V} {g : TG} {tb : TS} {D : Ends} {σ : St} {H : Hp} (Pv : Nat → St → Hp → Prop) (h0 : Pv 0 σ H) (hl : ∀ i σ H, i ≤ xs.length → Pv i σ H → SqT K H a xs)
    (hs : ∀ i x σ H, xs[i]? = some x → Pv i σ H → g x σ H fun σ2 H2 => tb { D with nx := Pv (i + 1), ct := Pv (i + 1), bk := D.nx } σ2 H2) (hd : ∀ σ H, Pv xs.length σ H → D.nx σ H) :
    ∃ W : Nat → Nat → St → Hp → Prop, (∃ m, W 0 m σ H) ∧ ∀ i m σ H, W i m σ H →
      ((Itt K a).stop i H ∧ D.nx σ H) ∨ ((Itt K a).go i H ∧ ∃ N : St → Hp → Prop, (∀ σ' H', N σ' H' → ∃ m', m' < m ∧ W (i + 1) m' σ' H') ∧ ∀ x H', (Itt K a).yld i H x H' → g x σ H' fun σ2 H2 => tb { D with nx := N, ct := N, bk := D.nx } σ2 H2) := by
  refine ⟨fun i m σ H => m = xs.length - i ∧ i ≤ xs.length ∧ Pv i σ H, ⟨xs.length, by simp, Nat.zero_le _, h0⟩, ?_⟩
  rintro i m σ H ⟨rfl, hi, p⟩
  have q := hl i σ H hi p
  by_cases hlt : i < xs.length
  · refine .inr ⟨⟨xs, xs[i], q, by simp [hlt]⟩, Pv (i + 1), fun σ' H' p' => ⟨xs.length - (i + 1), by omega, rfl, hlt, p'⟩, fun x H' y => ?_⟩
    obtain ⟨e, y⟩ := y
    subst e
    exact hs i x σ _ (y xs q) p
  · have e : i = xs.length := by omega
    subst e
    exact .inl ⟨⟨xs, q, Nat.le_refl _⟩, hd σ H p⟩
theorem for_range {lo : Int} {n : Nat} {g : TG} {tb : TS} {D : Ends} {σ : St} {H : Hp} (Pv : Nat → St → Hp → Prop) (h0 : Pv 0 σ H)
    (hs : ∀ i σ H, i < n → Pv i σ H → g (.int (lo + i)) σ H fun σ2 H2 => tb { D with nx := Pv (i + 1), ct := Pv (i + 1), bk := D.nx } σ2 H2) (hd : ∀ σ H, Pv n σ H → D.nx σ H) :
    ∃ W : Nat → Nat → St → Hp → Prop, (∃ m, W 0 m σ H) ∧ ∀ i m σ H, W i m σ H →
      ((Itr lo n).stop i H ∧ D.nx σ H) ∨ ((Itr lo n).go i H ∧ ∃ N : St → Hp → Prop, (∀ σ' H', N σ' H' → ∃ m', m' < m ∧ W (i + 1) m' σ' H') ∧ ∀ x H', (Itr lo n).yld i H x H' → g x σ H' fun σ2 H2 => tb { D with nx := N, ct := N, bk := D.nx } σ2 H2) := by
  refine ⟨fun i m σ H => m = n - i ∧ i ≤ n ∧ Pv i σ H, ⟨n, by simp, Nat.zero_le _, h0⟩, ?_⟩
  rintro i m σ H ⟨rfl, hi, p⟩
  by_cases hlt : i < n
  · refine .inr ⟨hlt, Pv (i + 1), fun σ' H' p' => ⟨n - (i + 1), by omega, rfl, hlt, p'⟩, fun x H' y => ?_⟩
    obtain ⟨e, y⟩ := y
    subst e y
    exact hs i σ _ hlt p
  · have e : i = n := by omega
    subst e
    exact .inl ⟨Nat.le_refl _, hd σ H p⟩
/-- while, by a word and a measure of the state -/
theorem while_by {c : TT} {tb : TS} {D : Ends} {σ : St} {H : Hp} (Pv : St → Hp → Prop) (μ : St → Hp → Nat) (h0 : Pv σ H)
    (hs : ∀ σ H, Pv σ H → c σ H fun b H1 => if b = true then tb { D with nx := fun σ' H' => Pv σ' H' ∧ μ σ' H' < μ σ H, ct := fun σ' H' => Pv σ' H' ∧ μ σ' H' < μ σ H, bk := D.nx } σ H1 else D.nx σ H1)
    (mono : ∀ σ H Q Q', (∀ b H1, Q b H1 → Q' b H1) → c σ H Q → c σ H Q') : tWhile c tb D σ H := by
  refine ⟨fun m σ H => m = μ σ H ∧ Pv σ H, ⟨_, rfl, h0⟩, ?_⟩
  rintro m σ H ⟨rfl, p⟩
  refine mono σ H _ _ (fun b H1 q => ?_) (hs σ H p)
  cases b with
  | true => exact ⟨_, fun σ' H' ⟨p', l⟩ => ⟨_, l, rfl, p'⟩, q⟩
  | false => exact q
end L2

namespace L2
open PySem PySem.Spec PyProof.Rows

noncomputable abbrev R2 := V → V → Hp → VK → Prop
/-- a two-place operation on values: f is binaryOp op, inplaceOp op or compareOp op -/
noncomputable def OpR (X : Cx) (f : Value → Value → Sem Value) (r : R2) : Prop :=
  ∀ (pins : List (Addr × Obj)) (s : Shared) (σ : St) (H : Hp) (x y : V) (v u : Value) (Q : VK), Inv X pins σ H s → RelV x v → RelV y u → r x y H Q →
    wpAny (model X.prog X.w) X.A (f v u) (EP X pins σ Q) X.xe s
/-- a one-place operation -/
noncomputable def UnR (X : Cx) (f : Value → Sem Value) (r : V → Hp → VK → Prop) : Prop :=
  ∀ (pins : List (Addr × Obj)) (s : Shared) (σ : St) (H : Hp) (x : V) (v : Value) (Q : VK), Inv X pins σ H s → RelV x v → r x H Q →
    wpAny (model X.prog X.w) X.A (f v) (EP X pins σ Q) X.xe s
/-- a call of a value that is known (a builtin, a type) with values -/
noncomputable def CallR (X : Cx) (f : Value) (r : List V → Hp → VK → Prop) : Prop :=
  ∀ (pins : List (Addr × Obj)) (s : Shared) (σ : St) (H : Hp) (xs : List V) (us : List Value) (Q : VK), Inv X pins σ H s → Vals xs us → r xs H Q →
    wpAny (model X.prog X.w) X.A (call f us) (EP X pins σ Q) X.xe s
/-- a value's truth -/
noncomputable def TruR (X : Cx) (r : V → Hp → (Bool → Hp → Prop) → Prop) : Prop :=
  ∀ (pins : List (Addr × Obj)) (s : Shared) (σ : St) (H : Hp) (x : V) (v : Value) (Q : Bool → Hp → Prop), Inv X pins σ H s → RelV x v → r x H Q →
    wpAny (model X.prog X.w) X.A (truthy v) (TP X pins σ Q) X.xe s

noncomputable def tOp (r : R2) (ta tb : TE) : TE := fun σ H Q => ta σ H fun x H1 => tb σ H1 fun y H2 => r x y H2 Q
noncomputable def tUn (r : V → Hp → VK → Prop) (ta : TE) : TE := fun σ H Q => ta σ H fun x H1 => r x H1 Q
/-- ints in, under C, and a value out -/
noncomputable def rI (C : Int → Int → Prop) (g : Int → Int → V) : R2 := fun x y H Q => ∃ i j, x = .int i ∧ y = .int j ∧ C i j ∧ Q (g i j) H
noncomputable def rI0 (g : Int → Int → V) : R2 := fun x y H Q => ∃ i j, x = .int i ∧ y = .int j ∧ Q (g i j) H
noncomputable def rU (g : Int → V) : V → Hp → VK → Prop := fun x H Q => ∃ i, x = .int i ∧ Q (g i) H

section
variable {X : Cx} {a b c : Expr} {ta tb tc : TE} {pos : Pos}

theorem binT (ha : PE X a ta) (hb : PE X b tb) {pins : List (Addr × Obj)} {s : Shared} {σ : St} {H : Hp} {R : V → V → Hp → Prop} (I : Inv X pins σ H s)
    (h : ta σ H fun x H1 => tb σ H1 fun y H2 => R x y H2) {Q : Value → Shared → Prop} {f : Value → Value → Sem Value}
    (hf : ∀ v u s2 x y H2, Inv X pins σ H2 s2 → RelV x v → RelV y u → R x y H2 → wpAny (model X.prog X.w) X.A (f v u) Q X.xe s2) :
    wpAny (model X.prog X.w) X.A (eval a X.env) (fun v s₁ => wpAny (model X.prog X.w) X.A (eval b X.env) (fun u s₂ => wpAny (model X.prog X.w) X.A (f v u) Q X.xe s₂) X.xe s₁) X.xe s := by
  refine thn (ha pins s σ H _ I h) fun v s1 ⟨x, H1, I1, r1, q1⟩ => ?_
  refine thn (hb pins s1 σ H1 _ I1 q1) fun u s2 ⟨y, H2, I2, r2, q2⟩ => ?_
  exact hf v u s2 x y H2 I2 r1 r2 q2

theorem pe_op {op : Operator} {r : R2} (ho : OpR X (binaryOp op) r) (ha : PE X a ta) (hb : PE X b tb) : PE X (.BinOp a op b pos) (tOp r ta tb) := by
  intro pins s σ H Q I h
  exact wpAny_BinOp (binT ha hb I h fun v u s2 x y H2 I2 rx ry q => ho pins s2 σ H2 x y v u Q I2 rx ry q)
theorem pe_un {op : UnaryOp} {r : V → Hp → VK → Prop} (ho : UnR X (unaryOp op) r) (ha : PE X a ta) : PE X (.UnaryOp op a pos) (tUn r ta) := by
  intro pins s σ H Q I h
  exact UnaryOp_ (thn (ha pins s σ H _ I h) fun v s1 ⟨x, H1, I1, r1, q1⟩ => ho pins s1 σ H1 x v Q I1 r1 q1)
/-! ### ints -/
theorem opI {f : Value → Value → Sem Value} {C : Int → Int → Prop} {g : Int → Int → Int}
    (rule : ∀ (i j : Int) (t u : Tok) (s : Shared) (Q : Value → Shared → Prop) (E : Value → Shared → Prop), C i j → Q (.int (g i j) s.toks) { s with toks := s.toks + 1 } → wpAny (model X.prog X.w) X.A (f (.int i t) (.int j u)) Q E s) :
    OpR X f (rI C fun i j => .int (g i j)) := by
  intro pins s σ H x y v u Q I rx ry h
  obtain ⟨i, j, rfl, rfl, hc, q⟩ := h
  obtain ⟨t, rfl⟩ := rx
  obtain ⟨t', rfl⟩ := ry
  exact rule i j t t' s _ _ hc ⟨.int (g i j), H, I.tok _, ⟨_, rfl⟩, q⟩
theorem opI0 {f : Value → Value → Sem Value} {g : Int → Int → Int}
    (rule : ∀ (i j : Int) (t u : Tok) (s : Shared) (Q : Value → Shared → Prop) (E : Value → Shared → Prop), Q (.int (g i j) s.toks) { s with toks := s.toks + 1 } → wpAny (model X.prog X.w) X.A (f (.int i t) (.int j u)) Q E s) :
    OpR X f (rI0 fun i j => .int (g i j)) := by
  intro pins s σ H x y v u Q I rx ry h
  obtain ⟨i, j, rfl, rfl, q⟩ := h
  obtain ⟨t, rfl⟩ := rx
  obtain ⟨t', rfl⟩ := ry
  exact rule i j t t' s _ _ ⟨.int (g i j), H, I.tok _, ⟨_, rfl⟩, q⟩
theorem opB0 {f : Value → Value → Sem Value} {g : Int → Int → Bool}
    (rule : ∀ (i j : Int) (t u : Tok) (s : Shared) (Q : Value → Shared → Prop) (E : Value → Shared → Prop), Q (.bool (g i j)) s → wpAny (model X.prog X.w) X.A (f (.int i t) (.int j u)) Q E s) :
    OpR X f (rI0 fun i j => .bl (g i j)) := by
  intro pins s σ H x y v u Q I rx ry h
  obtain ⟨i, j, rfl, rfl, q⟩ := h
  obtain ⟨t, rfl⟩ := rx
  obtain ⟨t', rfl⟩ := ry
  exact rule i j t t' s _ _ ⟨.bl (g i j), H, I, rfl, q⟩

noncomputable def CDiv (i j : Int) : Prop := 0 < j ∧ j < 1073741824
noncomputable def CPow (i j : Int) : Prop := 0 ≤ j ∧ j ≤ 1000000 ∧ i.natAbs < 2 ^ 64
noncomputable def CMul (i j : Int) : Prop := (-(2 ^ 64) < i ∧ i < 2 ^ 64) ∨ (-(2 ^ 64) < j ∧ j < 2 ^ 64)
theorem CMul.ok {i j : Int} (h : CMul i j) : IntMulOk i j := by
  rcases h with ⟨h1, h2⟩ | ⟨h1, h2⟩
  · exact .of_left (intBits_le_64 h1 h2)
  · exact .of_right (intBits_le_64 h1 h2)
theorem op_add : OpR X (binaryOp .Add) (rI0 fun i j => .int (i + j)) := opI0 fun _ _ _ _ _ _ _ q => add_int q
theorem op_sub : OpR X (binaryOp .Sub) (rI0 fun i j => .int (i - j)) := opI0 fun _ _ _ _ _ _ _ q => sub_int q
theorem op_mul : OpR X (binaryOp .Mult) (rI CMul fun i j => .int (i * j)) := opI fun _ _ _ _ _ _ _ hc q => mul_int q hc.ok
/-- // by a positive divisor -/
theorem op_fdiv : OpR X (binaryOp .FloorDiv) (rI CDiv fun i j => .int (i / j)) := opI fun i j _ _ _ _ _ hc q => by
  have h1 : (0 : Int) < j := hc.1
  have h2 : j < 1073741824 := hc.2
  exact floordiv_int (by omega) (by rw [Int.fdiv_eq_ediv_of_nonneg i (by omega)]; exact q) (.inl (PyProof.noPylong_small (by omega)))
/-- % by a positive divisor of any size -/
theorem op_mod : OpR X (binaryOp .Mod) (rI (fun _ j => 0 < j) fun i j => .int (i % j)) := opI fun i j _ _ _ _ _ hc q => by
  have h1 : (0 : Int) < j := hc
  exact mod_int' (by omega) (by rw [Int.fmod_eq_emod_of_nonneg i (by omega)]; exact q)
theorem op_pow : OpR X (binaryOp .Pow) (rI CPow fun i j => .int (i ^ j.toNat)) := opI fun _ _ _ _ _ _ _ hc q => pow_int_small hc.1 hc.2.1 hc.2.2 q
theorem unI {f : Value → Sem Value} {g : Int → Int}
    (rule : ∀ (i : Int) (t : Tok) (s : Shared) (Q : Value → Shared → Prop) (E : Value → Shared → Prop), Q (.int (g i) s.toks) { s with toks := s.toks + 1 } → wpAny (model X.prog X.w) X.A (f (.int i t)) Q E s) :
    UnR X f (rU fun i => .int (g i)) := by
  intro pins s σ H x v Q I rx h
  obtain ⟨i, rfl, q⟩ := h
  obtain ⟨t, rfl⟩ := rx
  exact rule i t s _ _ ⟨.int (g i), H, I.tok _, ⟨_, rfl⟩, q⟩
theorem un_neg : UnR X (unaryOp .USub) (rU fun i => .int (-i)) := unI fun _ _ _ _ _ q => neg_int q
/-! ### bools among ints: n += (a < b) -/
end

/-! ### comparisons -/
/-- the scalars that == tells apart as data does -/
noncomputable def scal : V → V → Bool
  | .non, .non => true | .non, .int _ => true | .int _, .non => true | .non, .bl _ => true | .bl _, .non => true | .non, .str _ => true | .str _, .non => true
  | .int _, .int _ => true | .bl _, .bl _ => true | .str _, .str _ => true | .byt _, .byt _ => true
  | .int _, .str _ => true | .str _, .int _ => true | .bl _, .str _ => true | .str _, .bl _ => true
  | _, _ => false
noncomputable def rEq : R2 := fun x y H Q => scal x y = true ∧ Q (.bl (decide (x = y))) H
noncomputable def rNe : R2 := fun x y H Q => scal x y = true ∧ Q (.bl (!decide (x = y))) H

theorem dec_int {i j : Int} : decide (V.int i = V.int j) = (i == j) := by
  rw [Bool.eq_iff_iff]
  simp
theorem dec_bl {i j : Bool} : decide (V.bl i = V.bl j) = (i == j) := by
  rw [Bool.eq_iff_iff]
  simp
theorem dec_str {i j : Str} : decide (V.str i = V.str j) = (i == j) := by
  rw [Bool.eq_iff_iff]
  simp
theorem dec_byt {i j : Array UInt8} : decide (V.byt i = V.byt j) = (i.toList == j.toList) := by
  rw [Bool.eq_iff_iff]
  cases i
  cases j
  simp

section
variable {X : Cx} {a b c : Expr} {ta tb tc : TE} {pos : Pos}
theorem fin_bl {pins : List (Addr × Obj)} {σ : St} {H : Hp} {s : Shared} {Q : VK} {k k' : Bool} (I : Inv X pins σ H s) (q : Q (.bl k) H) (e : k = k') : EP X pins σ Q (.bool k') s := by
  subst e
  exact ⟨.bl k, H, I, rfl, q⟩
theorem op_eq : OpR X (compareOp .Eq) rEq := by
  intro pins s σ H x y v u Q I rx ry h
  obtain ⟨hs, q⟩ := h
  cases x with
  | non =>
    cases rx
    cases y with
    | non => cases ry; exact PySem.EqNone.eq_none_none (fin_bl I q (by simp))
    | bl j => cases ry; exact PySem.EqNone.eq_none_bool (fin_bl I q (by simp))
    | int j => obtain ⟨t', rfl⟩ := ry; exact PySem.EqNone.eq_none_int (fin_bl I q (by simp))
    | str j => obtain ⟨t', rfl⟩ := ry; exact PySem.EqNone.eq_none_str (fin_bl I q (by simp))
    | _ => exact absurd (show false = true from hs) Bool.false_ne_true
  | bl i =>
    cases rx
    cases y with
    | non => cases ry; exact PySem.EqNone.eq_bool_none (fin_bl I q (by simp))
    | bl j => cases ry; exact eq_bool (fin_bl I q dec_bl)
    | str j => obtain ⟨t', rfl⟩ := ry; exact PySem.EqMixed.eq_bool_str (fin_bl I q (by simp))
    | _ => exact absurd (show false = true from hs) Bool.false_ne_true
  | int i =>
    obtain ⟨t, rfl⟩ := rx
    cases y with
    | non => cases ry; exact PySem.EqNone.eq_int_none (fin_bl I q (by simp))
    | int j => obtain ⟨t', rfl⟩ := ry; exact eq_int (fin_bl I q dec_int)
    | str j => obtain ⟨t', rfl⟩ := ry; exact PySem.EqMixed.eq_int_str (fin_bl I q (by simp))
    | _ => exact absurd (show false = true from hs) Bool.false_ne_true
  | str i =>
    obtain ⟨t, rfl⟩ := rx
    cases y with
    | non => cases ry; exact PySem.EqNone.eq_str_none (fin_bl I q (by simp))
    | bl j => cases ry; exact PySem.EqMixed.eq_str_bool (fin_bl I q (by simp))
    | int j => obtain ⟨t', rfl⟩ := ry; exact PySem.EqMixed.eq_str_int (fin_bl I q (by simp))
    | str j => obtain ⟨t', rfl⟩ := ry; exact eq_str (fin_bl I q dec_str)
    | _ => exact absurd (show false = true from hs) Bool.false_ne_true
  | byt i =>
    obtain ⟨t, rfl⟩ := rx
    cases y with
    | byt j => obtain ⟨t', rfl⟩ := ry; exact PySem.W.eq_bytes (fin_bl I q dec_byt)
    | _ => exact absurd (show false = true from hs) Bool.false_ne_true
  | _ => cases y <;> exact absurd (show false = true from hs) Bool.false_ne_true
theorem op_ne : OpR X (compareOp .NotEq) rNe := by
  intro pins s σ H x y v u Q I rx ry h
  obtain ⟨hs, q⟩ := h
  cases x with
  | non =>
    cases rx
    cases y with
    | non => cases ry; exact PySem.EqNone.ne_none_none (fin_bl I q (by simp))
    | bl j => cases ry; exact PySem.EqNone.ne_none_bool (fin_bl I q (by simp))
    | int j => obtain ⟨t', rfl⟩ := ry; exact PySem.EqNone.ne_none_int (fin_bl I q (by simp))
    | str j => obtain ⟨t', rfl⟩ := ry; exact PySem.EqNone.ne_none_str (fin_bl I q (by simp))
    | _ => exact absurd (show false = true from hs) Bool.false_ne_true
  | bl i =>
    cases rx
    cases y with
    | non => cases ry; exact PySem.EqNone.ne_bool_none (fin_bl I q (by simp))
    | bl j => cases ry; exact ne_bool (fin_bl I q (congrArg not dec_bl))
    | str j => obtain ⟨t', rfl⟩ := ry; exact PySem.EqMixed.ne_bool_str (fin_bl I q (by simp))
    | _ => exact absurd (show false = true from hs) Bool.false_ne_true
  | int i =>
    obtain ⟨t, rfl⟩ := rx
    cases y with
    | non => cases ry; exact PySem.EqNone.ne_int_none (fin_bl I q (by simp))
    | int j => obtain ⟨t', rfl⟩ := ry; exact ne_int (fin_bl I q (congrArg not dec_int))
    | str j => obtain ⟨t', rfl⟩ := ry; exact PySem.EqMixed.ne_int_str (fin_bl I q (by simp))
    | _ => exact absurd (show false = true from hs) Bool.false_ne_true
  | str i =>
    obtain ⟨t, rfl⟩ := rx
    cases y with
    | non => cases ry; exact PySem.EqNone.ne_str_none (fin_bl I q (by simp))
    | bl j => cases ry; exact PySem.EqMixed.ne_str_bool (fin_bl I q (by simp))
    | int j => obtain ⟨t', rfl⟩ := ry; exact PySem.EqMixed.ne_str_int (fin_bl I q (by simp))
    | str j => obtain ⟨t', rfl⟩ := ry; exact ne_str (fin_bl I q (congrArg not dec_str))
    | _ => exact absurd (show false = true from hs) Bool.false_ne_true
  | byt i =>
    obtain ⟨t, rfl⟩ := rx
    cases y with
    | byt j => obtain ⟨t', rfl⟩ := ry; exact PySem.W.ne_bytes (fin_bl I q (congrArg not dec_byt))
    | _ => exact absurd (show false = true from hs) Bool.false_ne_true
  | _ => cases y <;> exact absurd (show false = true from hs) Bool.false_ne_true

theorem op_lt : OpR X (compareOp .Lt) (rI0 fun i j => .bl (decide (i < j))) := opB0 fun _ _ _ _ _ _ _ q => lt_int q
theorem op_le : OpR X (compareOp .LtE) (rI0 fun i j => .bl (decide (i ≤ j))) := opB0 fun _ _ _ _ _ _ _ q => le_int q
theorem op_gt : OpR X (compareOp .Gt) (rI0 fun i j => .bl (decide (j < i))) := opB0 fun _ _ _ _ _ _ _ q => gt_int q
theorem op_ge : OpR X (compareOp .GtE) (rI0 fun i j => .bl (decide (j ≤ i))) := opB0 fun _ _ _ _ _ _ _ q => ge_int q
theorem nomark (b : Expr) {op : CmpOp} (h : op ≠ .In := by decide) (h2 : op ≠ .NotIn := by decide) : behindInMarks op b = false := by
  have e1 : (op == CmpOp.In) = false := by cases op <;> first | rfl | exact absurd rfl h
  have e2 : (op == CmpOp.NotIn) = false := by cases op <;> first | rfl | exact absurd rfl h2
  cases b <;> simp [behindInMarks, e1, e2]
/-- a comparison as a value; hm: nomark b, or (for in, not in) by with_unfolding_all rfl -/
theorem pe_cmpR {op : CmpOp} {r : R2} (ho : OpR X (compareOp op) r) (ha : PE X a ta) (hb : PE X b tb) (hm : behindInMarks op b = false) : PE X (.Compare a [op] [b] pos) (tOp r ta tb) := by
  intro pins s σ H Q I h
  exact wpAny_Compare1 (binT ha hb I h fun v u s2 x y H2 I2 rx ry q => ho pins s2 σ H2 x y v u Q I2 rx ry q) hm
/-- a reading of a value as a test -/
noncomputable def tTest (t : TE) : TT := fun σ H Q => t σ H fun x H' => ∃ k, x = .bl k ∧ Q k H'
theorem pt_cmpR {op : CmpOp} {r : R2} (ho : OpR X (compareOp op) r) (ha : PE X a ta) (hb : PE X b tb) (hm : behindInMarks op b = false) : PT X (.Compare a [op] [b] pos) (tTest (tOp r ta tb)) := by
  intro pins s σ H Q I h
  refine wpAny_isTrue_Compare1 (thn (ha pins s σ H _ I h) fun v s1 ⟨x, H1, I1, r1, q1⟩ => thn (hb pins s1 σ H1 _ I1 q1) fun u s2 ⟨y, H2, I2, r2, q2⟩ =>
    thn (ho pins s2 σ H2 x y v u _ I2 r1 r2 q2) fun c s3 ⟨z, H3, I3, r3, k, e, q3⟩ => ?_) hm
  subst e
  cases r3
  exact wpAny_truthy_bool ⟨H3, I3, q3⟩
/-- a op1 b op2 c -/
noncomputable def tChain (r r' : R2) (ta tb tc : TE) : TE := fun σ H Q => ta σ H fun x H1 => tb σ H1 fun y H2 => r x y H2 fun z H3 => ∃ k, z = .bl k ∧
  (if k = true then tc σ H3 fun w' H4 => r' y w' H4 Q else Q (.bl false) H3)
theorem pe_chain {op op' : CmpOp} {r r' : R2} (ho : OpR X (compareOp op) r) (ho' : OpR X (compareOp op') r') (ha : PE X a ta) (hb : PE X b tb) (hc : PE X c tc)
    (hm : lastMarks [op, op'] [b, c] = false := by with_unfolding_all rfl) : PE X (.Compare a [op, op'] [b, c] pos) (tChain r r' ta tb tc) := by
  intro pins s σ H Q I h
  refine Compare_chain (thn (ha pins s σ H _ I h) fun v s1 ⟨x, H1, I1, r1, q1⟩ => chain_link (thn (hb pins s1 σ H1 _ I1 q1) fun u s2 ⟨y, H2, I2, r2, q2⟩ =>
    thn (ho pins s2 σ H2 x y v u _ I2 r1 r2 q2) fun d s3 ⟨z, H3, I3, r3, k, e, q3⟩ => ?_)) hm
  subst e
  cases r3
  refine wpAny_truthy_bool ?_
  cases k with
  | false => exact ite_ff ⟨.bl false, H3, I3, rfl, q3⟩
  | true => exact ite_tt (chain_last (thn (hc pins s3 σ H3 _ I3 q3) fun w' s4 ⟨z', H4, I4, r4, q4⟩ => ho' pins s4 σ H4 y z' u w' Q I4 r2 r4 q4))
/-! ### truth -/
/-- a value's truth by the abstract heap -/
noncomputable def TruV (K : PySem.W.Frag) (x : V) (H : Hp) (k : Bool) : Prop :=
  match x with
  | .non => k = false
  | .bl b => k = b
  | .int i => k = (i != 0)
  | .str y => y.length ≤ sizeLine ∧ k = ((y.length : Int) != 0)
  | .byt y => y.size ≤ sizeLine ∧ k = ((y.size : Int) != 0)
  | .ref p => (∃ xs, SqL K H p xs ∧ k = !xs.isEmpty) ∨ (∃ xs, SqT K H p xs ∧ k = !xs.isEmpty) ∨ ∃ kvs, H p = some (.dK kvs) ∧ k = !kvs.isEmpty
  | _ => False
theorem isEmpty_kv {κ : Type} {kvs : List (κ × V)} {vs : List (κ × Value)} (r : KV kvs vs) : (!vs.isEmpty) = !kvs.isEmpty := by
  cases r <;> rfl
theorem isEmpty_of {xs : List V} {its : List Value} (r : Vals xs its) : (!its.toArray.isEmpty) = !xs.isEmpty := by
  cases r <;> simp
theorem line63 : (sizeLine : Nat) < 2 ^ 63 := by rw [sizeLine_eq]; decide
theorem tru_ok : TruR X (fun x H Q => ∃ k, TruV X.K x H k ∧ Q k H) := by
  intro pins s σ H x v Q I rx h
  obtain ⟨k, e, q⟩ := h
  have hl := line63
  have hs : sizeLine = 16777216 := sizeLine_eq
  cases x with
  | non =>
    cases rx
    have e' : k = false := e
    subst e'
    exact truthy_none ⟨H, I, q⟩
  | bl b =>
    cases rx
    have e' : k = b := e
    subst e'
    exact wpAny_truthy_bool ⟨H, I, q⟩
  | int i =>
    obtain ⟨t, rfl⟩ := rx
    have e' : k = (i != 0) := e
    subst e'
    exact PySem.P.truthy_int ⟨H, I, q⟩
  | str y =>
    obtain ⟨t, rfl⟩ := rx
    obtain ⟨hy, e'⟩ : y.length ≤ sizeLine ∧ k = ((y.length : Int) != 0) := e
    subst e'
    exact PySem.P.truthy_str (by omega) ⟨H, I.tok _, q⟩
  | byt y =>
    obtain ⟨t, rfl⟩ := rx
    obtain ⟨hy, e'⟩ : y.size ≤ sizeLine ∧ k = ((y.size : Int) != 0) := e
    subst e'
    exact PySem.W.truthy_bytes (by omega) ⟨H, I.tok _, q⟩
  | ref p =>
    cases rx
    have e' : (∃ xs, SqL X.K H p xs ∧ k = !xs.isEmpty) ∨ (∃ xs, SqT X.K H p xs ∧ k = !xs.isEmpty) ∨ ∃ kvs, H p = some (.dK kvs) ∧ k = !kvs.isEmpty := e
    rcases e' with ⟨xs, hx, e'⟩ | ⟨xs, hx, e'⟩ | ⟨kvs, hx, e'⟩
    · subst e'
      obtain ⟨its, r, pl, hz⟩ := I.list hx
      have hlen := r.length
      exact wpAny_truthy_list pl.isList (by simp only [List.size_toArray]; omega) ⟨H, I.tok _, by rw [isEmpty_of r]; exact q⟩
    · subst e'
      obtain ⟨its, r, pl, hz⟩ := I.tuple hx
      have hlen := r.length
      exact truthy_tuple pl (by simp only [List.size_toArray]; omega) ⟨H, I.tok _, by rw [isEmpty_of r]; exact q⟩
    · subst e'
      obtain ⟨hz, hS, vs, r, m⟩ : kvs.length ≤ sizeLine ∧ (p == sysModules) = false ∧ ∃ vs, KV kvs vs ∧ s.heap.DictOf (mixKind X.prog X.w) p vs := I.hok p _ hx
      have hlen : kvs.length = vs.length := Paired.length r
      exact wpAny_truthy_dict hS m (by omega) ⟨H, I.tok _, by rw [isEmpty_kv r]; exact q⟩
  | _ => exact (show False from e).elim
/-- any expression whose test is its value's truth (a name, a call, a subscript, a field ..: he by fun _ => rfl) -/
theorem pt_truth (ha : PE X a ta) (he : ∀ whole, isTrue a X.env whole = (do let v ← whole; standAt a.pos; holding [v] (truthy v))) :
    PT X a (fun σ H Q => ta σ H fun x H' => ∃ k, TruV X.K x H' k ∧ Q k H') := by
  intro pins s σ H Q I h
  exact isTrue_plain (thn (ha pins s σ H _ I h) fun v s1 ⟨x, H1, I1, r1, q1⟩ => tru_ok pins s1 σ H1 x v Q I1 r1 q1) (he _)

/-! ### strs and bytes -/
/-! ### scalar builtins, by CallR -/
theorem vals1 {x : V} {us : List Value} (r : Vals [x] us) : ∃ u, us = [u] ∧ RelV x u := by
  cases r with
  | cons r1 r2 => cases r2; exact ⟨_, rfl, r1⟩
theorem vals2 {x y : V} {us : List Value} (r : Vals [x, y] us) : ∃ u w', us = [u, w'] ∧ RelV x u ∧ RelV y w' := by
  cases r with
  | cons r1 r2 =>
    cases r2 with
    | cons r3 r4 => cases r4; exact ⟨_, _, rfl, r1, r3⟩
theorem call_abs : CallR X (.builtin "abs") (fun xs H Q => ∃ i, xs = [.int i] ∧ Q (.int (if i < 0 then -i else i)) H) := by
  intro pins s σ H xs us Q I r h
  obtain ⟨i, rfl, q⟩ := h
  obtain ⟨u, rfl, t, rfl⟩ := vals1 r
  exact call_abs_int fun u tk => ⟨.int (if i < 0 then -i else i), H, I.tok _, ⟨_, rfl⟩, q⟩
theorem call_max2 (hc : X.calm = true) : CallR X (.builtin "max") (fun xs H Q => ∃ i j, xs = [.int i, .int j] ∧ Q (.int (if j > i then j else i)) H) := by
  intro pins s σ H xs us Q I r h
  obtain ⟨i, j, rfl, q⟩ := h
  obtain ⟨u, w', rfl, ⟨t, rfl⟩, ⟨t', rfl⟩⟩ := vals2 r
  refine max_two_ints (I.ok.hd hc) fun h' tk k => ⟨_, H, I.kept k, ?_, q⟩
  by_cases hj : j > i
  · rw [if_pos hj, if_pos hj]; exact ⟨_, rfl⟩
  · rw [if_neg hj, if_neg hj]; exact ⟨_, rfl⟩
theorem call_min2 (hc : X.calm = true) : CallR X (.builtin "min") (fun xs H Q => ∃ i j, xs = [.int i, .int j] ∧ Q (.int (if j < i then j else i)) H) := by
  intro pins s σ H xs us Q I r h
  obtain ⟨i, j, rfl, q⟩ := h
  obtain ⟨u, w', rfl, ⟨t, rfl⟩, ⟨t', rfl⟩⟩ := vals2 r
  refine min_two_ints (I.ok.hd hc) fun h' tk k => ⟨_, H, I.kept k, ?_, q⟩
  by_cases hj : j < i
  · rw [if_pos hj, if_pos hj]; exact ⟨_, rfl⟩
  · rw [if_neg hj, if_neg hj]; exact ⟨_, rfl⟩
end
end L2

namespace L2
open PySem PySem.Spec PyProof.Rows

/-! ### an instance, its attributes a map -/
structure ObjM (h : Heap) (x dx C : Addr) (mA : Str → Option Value) : Prop where
  obj : h.get? x = some (PySem.W.instObj C dx)
  ns : h.Ns1 dx mA
  ne : dx ≠ x

theorem lookIn_ns {h : Heap} {dx : Addr} {mA : Str → Option Value} (n : h.Ns1 dx mA) : ∃ od, h.get? dx = some od ∧ ∀ name, PySem.W.lookIn name od = some (mA name) := by
  obtain ⟨o, es, ep, ho, hd, hk, _, hm⟩ := n
  refine ⟨o, ho, fun name => ?_⟩
  have e := hm name
  unfold nsFind findBy at e
  rw [← Array.find?_toList] at e
  unfold PySem.W.lookIn
  rw [hd]
  dsimp only
  split
  · rename_i y q
    rw [q] at e
    exact congrArg some e
  · rename_i q
    rw [q] at e
    have a : es.toList.any (·.refKey) = false := by
      rw [List.any_eq_false]
      intro y hy
      obtain ⟨z, t, hkey⟩ := hk y (Array.mem_toList_iff.mp hy)
      simp [DictEntry.refKey, hkey]
    have a' : ¬ es.toList.any (·.refKey) = true := by rw [a]; exact Bool.false_ne_true
    rw [if_neg a']
    exact congrArg some e

theorem ObjM.look {h : Heap} {x dx C : Addr} {mA : Str → Option Value} (I : ObjM h x dx C mA) : ∃ od, PySem.W.InstAt h x (PySem.W.instObj C dx) C (some od) ∧ ∀ name, PySem.W.lookIn name od = some (mA name) :=
  let ⟨od, ho, hl⟩ := lookIn_ns I.ns
  ⟨od, ⟨I.obj, rfl, rfl, ho⟩, hl⟩

section
variable {prog : Program} {w : World} {A : Around} {E : Value → Shared → Prop} {s : Shared} {K : PySem.W.Frag} {x dx C f : Addr} {mA : Str → Option Value} {name : Str} {v : Value}

end

/-! ### the attributes as a list of pairs -/
section
variable {P : Program} {w : World} {H H' : Hp} {h h' : Heap} {a C dx : Addr} {fs fs' : List (Str × V)}
theorem ins_get (hok : HOk P w H h) (e : H a = some (.ins C dx fs)) : ∃ mA, ObjM h a dx C mA ∧ (∀ f, RelO (fs.lookup f) (mA f)) ∧ PySem.Within mA (fs.map (·.1)) ∧ fs.length ≤ 1000 ∧ H dx = some (.own a) := by
  obtain ⟨d, z, ne, ob, mA, n, r, q⟩ := (show ObjOk P w H h a (.ins C dx fs) from hok a _ e)
  exact ⟨mA, ⟨ob, n, ne⟩, r, q, z, d⟩
end

/-! ### what of the text a class must have -/
structure Cls (K : PySem.W.Frag) (C : Addr) : Prop where
  pg : PySem.W.plainGet K C Str.empty = true
  hd : PySem.W.hasDictIn K C = true
  po : PySem.W.plainOver K C = true
  sa : PySem.W.findIn K (.ref C) "__setattr__" = some (some (.builtin "object.__setattr__"))
theorem Cls.get {K : PySem.W.Frag} {C : Addr} (c : Cls K C) (f : Str) : PySem.W.plainGet K C f = true := c.pg
/-- a constant of the class -/
structure Con (K : PySem.W.Frag) (C : Addr) (f : Str) (v : V) (u : Value) : Prop where
  at_ : PySem.W.findIn K (.ref C) f = some (some u)
  rel : RelV v u
  get : PySem.W.specialIn K u "__get__" = some none
  cp : PySem.W.copiedNames.contains f = false
/-- a method: a plain def of the class or of one above it -/
structure Meth (K : PySem.W.Frag) (C : Addr) (m : Str) (f : Addr) : Prop where
  at_ : PySem.W.findIn K (.ref C) m = some (some (.ref f))
  fn : PySem.W.isFn K (.ref f) = true
  kp : PySem.W.keepIn K (.ref f) = true

section
variable {X : Cx} {pins : List (Addr × Obj)} {σ : St} {H : Hp} {s : Shared} {a C dx : Addr} {fs : List (Str × V)} {f : Str} {v : V} {A : Around} {E : Value → Shared → Prop}

end

/-! ### readings and rules -/
section
variable {X : Cx} {o e value : Expr} {f : Str} {pos pos' tpos : Pos} {ta tv : TE}
end

/-! ### isinstance -/
section
variable {X : Cx} {pins : List (Addr × Obj)} {σ : St} {H : Hp} {s : Shared} {A : Around} {E : Value → Shared → Prop} {Q : Value → Shared → Prop} {c : Value} {b : Bool}
/-- the type of a value, as the fragment's deciders take it; for an instance its class -/
inductive TyOf (K : PySem.W.Frag) (H : Hp) : V → Value → Prop where
  | non : TyOf K H .non (.type "NoneType")
  | bl (x : Bool) : TyOf K H (.bl x) (.type "bool")
  | int (i : Int) : TyOf K H (.int i) (.type "int")
  | str (x : Str) : TyOf K H (.str x) (.type "str")
  | flt (x : UInt64) : TyOf K H (.flt x) (.type "float")
  | lst {a : Addr} {xs : List V} (e : H a = some (.lst xs)) : TyOf K H (.ref a) (.type "list")
  | frz {a : Addr} {o : Obj} {xs : List V} (e : H a = some (.frz o (.lst xs))) : TyOf K H (.ref a) (.type "list")
  | tup {a : Addr} {xs : List V} (e : H a = some (.tup xs)) : TyOf K H (.ref a) (.type "tuple")
  | dK {a : Addr} {kvs : List (Key × V)} (e : H a = some (.dK kvs)) : TyOf K H (.ref a) (.type "dict")
  | dT {a : Addr} {kvs : List (List Key × V)} (e : H a = some (.dT kvs)) : TyOf K H (.ref a) (.type "dict")
  | ins {a C dx : Addr} {fs : List (Str × V)} (e : H a = some (.ins C dx fs)) (cl : Cls K C) (ha : PySem.W.findIn K (.ref C) "__class__" = some (some (.builtin "object.__class__")))
      (hn : PySem.W.specialIn K (.builtin "object.__class__") "__get__" = some (some (.builtin "getset_descriptor.__get__"))) (htk : PySem.W.takesIn K (.builtin "object.__class__") = some true)
      (hm : PySem.W.mroIn K C (.type "object") = some true) : TyOf K H (.ref a) (.ref C)
/-- isinstance(x, c) for one class c, a built-in or an own one: kitOne's answer -/
theorem isinst_ok {x : V} {u t : Value} (I : Inv X pins σ H s) (rx : RelV x u) (ty : TyOf X.K H x t) (e : PySem.W.kitOne X.K t c = some b) (h : ∀ tk, Q (.bool b) { s with toks := tk }) :
    wpAny (model X.prog X.w) A (call (.builtin "isinstance") [u, c]) Q E s := by
  cases ty with
  | non => cases (show u = Value.none from rx); exact PySem.W.kia_one PySem.W.kitx_none I.kIn True.intro e (fun z => nomatch z) h
  | bl y => cases (show u = Value.bool y from rx); exact PySem.W.kia_one PySem.W.kitx_bool I.kIn True.intro e (fun z => nomatch z) h
  | int i => obtain ⟨t, q⟩ := (show ∃ t, u = Value.int i t from rx); cases q; exact PySem.W.kia_one PySem.W.kitx_int I.kIn True.intro e (fun z => nomatch z) h
  | str y => obtain ⟨t, q⟩ := (show ∃ t, u = Value.str y t from rx); cases q; exact PySem.W.kia_one PySem.W.kitx_str I.kIn True.intro e (fun z => nomatch z) h
  | flt y => obtain ⟨t, q⟩ := (show ∃ t, u = Value.float y t from rx); cases q; exact PySem.W.kia_one PySem.W.kitx_float I.kIn True.intro e (fun z => nomatch z) h
  | @lst a xs ea =>
    cases (show u = Value.ref a from rx)
    obtain ⟨_, _, n, _, h1⟩ := (show ObjOk X.prog X.w H s.heap a (.lst xs) from I.hok a _ ea)
    exact PySem.W.kia_one PySem.W.kitx_list I.kIn ⟨_, h1, rfl⟩ e (fun z => nomatch z) h
  | @frz a ob xs ea =>
    cases (show u = Value.ref a from rx)
    obtain ⟨_, _, _, n, _, h1⟩ := (show ObjOk X.prog X.w H s.heap a (.frz ob (.lst xs)) from I.hok a _ ea)
    exact PySem.W.kia_one PySem.W.kitx_list I.kIn ⟨_, h1, rfl⟩ e (fun z => nomatch z) h
  | @tup a xs ea =>
    cases (show u = Value.ref a from rx)
    obtain ⟨_, _, _, p⟩ := (show ObjOk X.prog X.w H s.heap a (.tup xs) from I.hok a _ ea)
    obtain ⟨o, h1, h2, _⟩ := p
    exact PySem.W.kia_one PySem.W.kitx_tuple I.kIn ⟨o, h1, h2⟩ e (fun z => nomatch z) h
  | @dK a kvs ea =>
    cases (show u = Value.ref a from rx)
    obtain ⟨_, _, vs, _, p⟩ := (show ObjOk X.prog X.w H s.heap a (.dK kvs) from I.hok a _ ea)
    obtain ⟨o, es, ep, h1, h2, _⟩ := p
    exact PySem.W.kia_one PySem.W.kitx_dict I.kIn ⟨o, h1, h2.1⟩ e (fun z => nomatch z) h
  | @dT a kvs ea =>
    cases (show u = Value.ref a from rx)
    obtain ⟨_, _, xs, _, o, es, ep, h1, h2, _⟩ := (show ObjOk X.prog X.w H s.heap a (.dT kvs) from I.hok a _ ea)
    exact PySem.W.kia_one PySem.W.kitx_dict I.kIn ⟨o, h1, h2.1⟩ e (fun z => nomatch z) h
  | @ins a C dx fs ea cl ha hn htk hm =>
    cases (show u = Value.ref a from rx)
    obtain ⟨mA, O, _⟩ := ins_get I.hok ea
    obtain ⟨od, J, _⟩ := O.look
    exact PySem.W.kia_one (PySem.W.kitx_own (cl.get _) cl.hd ha hn htk hm) I.kIn J e (fun z => nomatch z) h
end
end L2

namespace L2
open PySem PySem.Spec PyProof.Rows

/-! ### room -/
structure Room (k : Nat) (A : Around) : Prop where
  hd : A.handled = none
  dp : A.depth + 3 * k + 5 < recursionLimit
  un : A.units + 16 * k + 200 < cLine
theorem Room.mono {j k : Nat} {A : Around} (r : Room k A) (h : j ≤ k) : Room j A := ⟨r.hd, by have := r.dp; omega, by have := r.un; omega⟩
theorem Room.deeper {k : Nat} {A : Around} (r : Room (k + 1) A) (env : Env) : Room k (A.deeper env) :=
  ⟨r.hd, by have := r.dp; show A.depth + 1 + 3 * k + 5 < _; omega, by have := r.un; show A.units + 3 + 16 * k + 200 < _; omega⟩
theorem Room.depth {k : Nat} {A : Around} (r : Room k A) : A.depth < recursionLimit := by have := r.dp; omega
theorem Room.units0 {k : Nat} {A : Around} (r : Room k A) : A.units < cLine := by have := r.un; omega

/-! ### argument lists and displays -/
noncomputable def tNil : TA := fun _ H Q => Q [] H
noncomputable def tCons (ta : TE) (tr : TA) : TA := fun σ H Q => ta σ H fun x H1 => tr σ H1 fun xs H2 => Q (x :: xs) H2
section
variable {X : Cx} {e : Expr} {es : List Expr} {te : TE} {t : TA} {pos : Pos}
theorem pa_nil : PA X [] tNil := fun _ _ _ _ H Q I h => Calls.spliced_nil ⟨[], H, I, .nil, h⟩
theorem pa_cons (ha : PE X e te) (hr : PA X es t) (hs : starEach (e :: es) X.env = (false, eval e X.env) :: starEach es X.env := by rfl) : PA X (e :: es) (tCons te t) := by
  intro pos pins s σ H Q I h
  rw [hs]
  show wpAny _ _ (spliced ((false, eval e X.env) :: backTo pos (starEach es X.env))) _ _ s
  refine Calls.spliced_cons (thn (ha pins s σ H _ I h) fun u s1 ⟨x, H1, I1, r1, q1⟩ => ?_)
  exact thn (hr pos pins s1 σ H1 _ I1 q1) fun us s2 ⟨xs, H2, I2, r2, q2⟩ => ⟨x :: xs, H2, I2, .cons r1 r2, q2⟩

/-- a tuple, a list of written items -/
noncomputable def tTup (t : TA) : TE := fun σ H Q => t σ H fun xs H1 => xs.length ≤ sizeLine ∧ ∀ p, H1 p = none → Q (.ref p) (upd H1 p (.tup xs))
noncomputable def tLst (t : TA) : TE := fun σ H Q => t σ H fun xs H1 => xs.length ≤ sizeLine ∧ ∀ p, H1 p = none → Q (.ref p) (upd H1 p (.lst xs))
theorem pe_tup {x1} (h : PA X es t) : PE X (.Tuple es x1 pos) (tTup t) := by
  intro pins s σ H Q I hq
  refine wpAny_Tuple_spliced (thn (h pos pins s σ H _ I hq) fun us s1 ⟨xs, H1, I1, r, z, q⟩ => ⟨by rw [← r.length]; exact z, ?_⟩)
  have hf : H1 s1.heap.objs.size = none := I1.hok.fresh (Nat.le_refl _)
  refine ⟨.ref s1.heap.objs.size, upd H1 s1.heap.objs.size (.tup xs), I1.laid (t' := s1.toks) (fun b u e => Heap.get?_push_of_some _ e) (Nat.le_refl _) ?_, rfl, q _ hf⟩
  exact ⟨z, us, r, ⟨_, Heap.get?_push_size _ rfl, rfl, _, rfl⟩⟩
theorem pe_lst (h : PA X es t) : PE X (.List es pos) (tLst t) := by
  intro pins s σ H Q I hq
  refine wpAny_List_spliced (thn (h pos pins s σ H _ I hq) fun us s1 ⟨xs, H1, I1, r, z, q⟩ => ⟨by rw [← r.length]; exact z, ?_⟩)
  have hf : H1 s1.heap.objs.size = none := I1.hok.fresh (Nat.le_refl _)
  refine ⟨.ref s1.heap.objs.size, upd H1 s1.heap.objs.size (.lst xs), I1.laid (t' := s1.toks) (fun b u e => Heap.get?_push_of_some _ e) (Nat.le_refl _) ?_, rfl, q _ hf⟩
  exact ⟨z, us, 0, r, Heap.get?_push_size _ rfl⟩
end

/-! ### what a def promises -/
/-- a def's promise: the bound arguments in the parameters' order, the heap, the wanted end, the wanted exception -/
noncomputable abbrev Sp := List V → Hp → VK → XK → Prop
/-- how an exception lies behind a call (file 08 gives it): the callers' frames, abstract heap and state ahead of the call, the wish, the exception, the state -/
noncomputable abbrev CXT := List Env → Hp → Shared → XK → Value → Shared → Prop

/-- the state at a call -/
structure Env0 (P : Program) (w : World) (K : PySem.W.Frag) (mg : Str → Option Value) (base : Heap) (A : Around) (outer : List Env) (s : Shared) (H : Hp) : Prop where
  frames : A.frames = some outer
  mod : Mod K mg base
  bs : ∀ b o, base.get? b = some o → s.heap.get? b = some o ∧ H b = none
  bsz : base.objs.size ≤ s.heap.objs.size
  funs : s.heap.FunFrames base outer
  frf : ∀ b ∈ frs outer, H b = none
  hok : HOk P w H s.heap
  bare : AllBare s.gens
/-- a call's end -/
noncomputable def CE (outer : List Env) (P : Program) (w : World) (H : Hp) (s : Shared) (Q : VK) (u : Value) (s' : Shared) : Prop :=
  ∃ v H', s'.os = s.os ∧ AllBare s'.gens ∧ Un (frs outer) [] H H' s.heap s'.heap ∧ HOk P w H' s'.heap ∧ RelV v u ∧ Q v H'
noncomputable def CR (CX : CXT) (outer : List Env) (P : Program) (w : World) (H : Hp) (s : Shared) (Q : VK) (E : XK) (r : Result) (s' : Shared) : Prop :=
  match r with
  | .ok (.ret u) => CE outer P w H s Q u s'
  | .ok _ => False
  | .error e => CX outer H s E e s'
structure FnOk (P : Program) (w : World) (K : PySem.W.Frag) (mg : Str → Option Value) (base : Heap) (CX : CXT) (k : Nat) (f : Addr) (fd : FuncData) (ps : List Str) (sp : Sp) : Prop where
  len : ∀ vs H Q E, sp vs H Q E → vs.length = ps.length
  run : ∀ (A : Around) (outer : List Env) (s : Shared) (H : Hp) (args : Args) (us : List Value) (vs : List V) (Q : VK) (E : XK), Room k A → Env0 P w K mg base A outer s H → BindsTo s fd args (ps.zip us) → Vals vs us → sp vs H Q E →
    codeAny (model P w) A (.call (.ref f) args) (CR CX outer P w H s Q E) s
section
variable {X : Cx} {pins : List (Addr × Obj)} {σ : St} {H : Hp} {s s' : Shared}
/-- from a body: what a callee wants -/
theorem Inv.env0 (I : Inv X pins σ H s) : Env0 X.prog X.w X.K X.mg X.base X.A X.stack s H :=
  ⟨I.ok.frames, I.ok.mod, I.bs, Nat.le_trans I.ok.bsz I.sz, I.stack, I.stkFree, I.hok, I.bare⟩
/-- behind a call -/
theorem Inv.after {Q : VK} {u : Value} (I : Inv X pins σ H s) (h : CE X.stack X.prog X.w H s Q u s') : EP X pins σ Q u s' := by
  obtain ⟨v, H', os, bare, un, hok, r, q⟩ := h
  obtain ⟨hh, g, d, t, os'⟩ := s'
  obtain rfl : os' = s.os := os
  exact ⟨v, H', I.call (h' := hh) (g' := g) (d' := d) (t' := t) (ch := []) un hok bare (fun b z => absurd z (by simp)), r, q⟩
end

/-! ### calls -/
/-- f(..): the written arguments, then the defaults dvs; E: what is wanted of an exception -/
noncomputable def tCall (sp : Sp) (dvs : List V) (E : XK) (t : TA) : TE := fun σ H Q => t σ H fun vs H1 => sp (vs ++ dvs) H1 Q E
/-- how the parameters are bound: us the positional arguments, kw the keywords' values by name, ds the defaults that fill up -/
noncomputable def Binds (K : PySem.W.Frag) (fd : FuncData) (ps : List Str) (ds : List Value) : Prop :=
  ∀ (s : Shared) (us : List Value), K.In s.heap → (us ++ ds).length = ps.length → BindsTo s fd ⟨us, []⟩ (ps.zip (us ++ ds))
/-- every parameter is given -/
theorem Binds.all {K : PySem.W.Frag} {fd : FuncData} {ps : List Str} (h : ∀ us : List Value, us.length = ps.length → bindArgs fd ⟨us, []⟩ = pure (ps.zip us)) : Binds K fd ps [] := fun s us _ hl => by
  rw [List.append_nil] at hl ⊢
  exact .of_eq (h us hl)

/-- an exception of a callee reaches what this body wants of exceptions -/
noncomputable def Passes (CX : CXT) (X : Cx) (E : XK) : Prop := ∀ (pins : List (Addr × Obj)) (σ : St) (H : Hp) (s : Shared) (e : Value) (s' : Shared), Inv X pins σ H s → CX X.stack H s E e s' → X.xe e s'

section
variable {X : Cx} {CX : CXT} {k : Nat} {f C : Addr} {fd : FuncData} {ps : List Str} {sp : Sp} {dvs : List V} {ds : List Value} {E : XK} {x m : Str} {p pos apos : Pos} {e o : Expr} {es : List Expr} {ta : TE} {t : TA}

/-- the callee runs -/
theorem run_fn {pins : List (Addr × Obj)} {σ : St} {H : Hp} {s : Shared} {Q : VK} {us : List Value} {vs : List V} (F : FnOk X.prog X.w X.K X.mg X.base CX k f fd ps sp) (hr : Room k X.A) (hb : Binds X.K fd ps ds) (hd : Vals dvs ds) (hx : Passes CX X E)
    (I : Inv X pins σ H s) (r : Vals vs us) (h : sp (vs ++ dvs) H Q E) : wpAny (model X.prog X.w) X.A (call (.ref f) us) (EP X pins σ Q) X.xe s := by
  have r2 : Vals (vs ++ dvs) (us ++ ds) := r.append hd
  have hl : (us ++ ds).length = ps.length := by rw [← r2.length]; exact F.len _ _ _ _ h
  refine wpAny_call (codeAny_mono (F.run X.A X.stack s H ⟨us, []⟩ (us ++ ds) (vs ++ dvs) Q E hr I.env0 (hb s us I.kIn hl) r2 h) fun r s' hq => ?_)
  cases r with
  | error e => exact hx pins σ H s e s' I hq
  | ok fl =>
    cases fl with
    | ret u => exact I.after hq
    | next => exact False.elim hq
    | brk => exact False.elim hq
    | cont => exact False.elim hq

theorem pe_call (F : FnOk X.prog X.w X.K X.mg X.base CX k f fd ps sp) (hr : Room k X.A) (hg : Gl X x) (hm : X.mg x = some (.ref f)) (hk : PySem.W.keepIn X.K (.ref f) = true) (hb : Binds X.K fd ps ds) (hd : Vals dvs ds) (hx : Passes CX X E)
    (ha : PA X (e :: es) t) (hdb : (x == ("__debug__" : Str)) = false := by decide) (he : starEach (e :: es) X.env = (false, eval e X.env) :: starEach es X.env := by rfl) (hpl : (backTo pos (starEach es X.env)).any (·.1) = false := by rfl) :
    PE X (.Call (.Name x p) (e :: es) [] pos) (tCall sp dvs E t) := by
  intro pins s σ H Q I h
  refine wpAny_Call_Name_kw (ld_glob I hg hm ?_ hdb)
  refine PySem.W.callWith_K (h₀ := X.base) I.ok.mod.kin hk (thn (ha pos pins s σ H _ I h) fun us s1 ⟨vs, H1, I1, r, q⟩ => ⟨I1.kIn, ?_⟩) he hpl
  exact run_fn F hr hb hd hx I1 r q
/-- what a class must have to be made -/
structure Mk (K : PySem.W.Frag) (C f : Addr) : Prop where
  makes : PySem.W.makesIn K C = true
  init : PySem.W.findIn K (.ref C) "__init__" = some (some (.ref f))
  fn : PySem.W.isFn K (.ref f) = true
  kp : PySem.W.keepIn K (.ref C) = true

end

/-! ### keywords -/
section
variable {X : Cx} {CX : CXT} {k : Nat} {f C : Addr} {fd : FuncData} {ps ks : List Str} {sp : Sp} {E : XK} {x m : Str} {p pos apos kpos : Pos} {e o : Expr} {es : List Expr} {kws : List Keyword} {te ta : TE} {t tk : TA} {nm : Option Str}
/-- how a call with keywords binds: g puts the positional values us and the keywords' values ws (names ks) in the parameters' order, defaults among them -/
structure KBinds (K : PySem.W.Frag) (fd : FuncData) (ps ks : List Str) (g : List Value → List Value → List Value) (gV : List V → List V → List V) : Prop where
  to : ∀ (s : Shared) (us ws : List Value), K.In s.heap → (g us ws).length = ps.length → BindsTo s fd ⟨us, ks.zip ws⟩ (ps.zip (g us ws))
  rel : ∀ {vs : List V} {us : List Value} {zs : List V} {ws : List Value}, Vals vs us → Vals zs ws → Vals (gV vs zs) (g us ws)
variable {g : List Value → List Value → List Value} {gV : List V → List V → List V}
end

/-! ### a def's body keeps its promise -/
/-- names: the parameters first -/
structure FnScope (N P : List Str) (sc : Scope) : Prop where
  kind : sc.kind = .function
  co : sc.isCoroutine = false
  gen : sc.isGenerator = false
  nd : N.Nodup
  pre : N.take P.length = P
  par : ∀ x ∈ P, sc.names.lookup x = some .local ∨ sc.names.lookup x = some .cell
  nofree : ∀ y ∈ sc.names, y.2 ≠ .free

theorem bindL_out {kindOf : Str → Option NameKind} {x : Str} : ∀ {binds : List (Str × Value)} {m : Str → Option Value}, (∀ v, (x, v) ∉ binds) → bindL kindOf binds m x = m x
  | [], _, _ => rfl
  | (n, v) :: r, m, h => by
    unfold bindL
    rw [bindL_out fun w hw => h w (List.mem_cons_of_mem _ hw)]
    split
    · have : x ≠ n := by rintro rfl; exact h v List.mem_cons_self
      simp [this]
    · rfl
theorem bindC_out {kindOf : Str → Option NameKind} {x : Str} : ∀ {binds : List (Str × Value)} {m : Str → Option Value}, (∀ v, (x, v) ∉ binds) → bindC kindOf binds m x = m x
  | [], _, _ => rfl
  | (n, v) :: r, m, h => by
    unfold bindC
    rw [bindC_out fun w hw => h w (List.mem_cons_of_mem _ hw)]
    split
    · rfl
    · have : x ≠ n := by rintro rfl; exact h v List.mem_cons_self
      simp [this]
theorem bindL_get {kindOf : Str → Option NameKind} {x : Str} {v : Value} : ∀ {P : List Str} {vs : List Value} {i : Nat} {m : Str → Option Value}, P.Nodup → P[i]? = some x → vs[i]? = some v → kindOf x = some .local →
    bindL kindOf (P.zip vs) m x = some v
  | [], _, _, _, _, h, _, _ => by simp at h
  | _ :: _, [], _, _, _, _, h, _ => by simp at h
  | p :: P, w :: vs, 0, m, nd, h1, h2, hk => by
    simp at h1 h2; subst h1; subst h2
    show bindL kindOf ((p, w) :: P.zip vs) m p = _
    unfold bindL
    rw [bindL_out fun v hv => (List.nodup_cons.mp nd).1 (List.of_mem_zip hv).1, if_pos hk]
    simp
  | p :: P, w :: vs, i + 1, m, nd, h1, h2, hk => by
    show bindL kindOf ((p, w) :: P.zip vs) m x = _
    unfold bindL
    exact bindL_get (i := i) (List.nodup_cons.mp nd).2 (by simpa using h1) (by simpa using h2) hk
theorem bindC_get {kindOf : Str → Option NameKind} {x : Str} {v : Value} : ∀ {P : List Str} {vs : List Value} {i : Nat} {m : Str → Option Value}, P.Nodup → P[i]? = some x → vs[i]? = some v → kindOf x ≠ some .local →
    bindC kindOf (P.zip vs) m x = some v
  | [], _, _, _, _, h, _, _ => by simp at h
  | _ :: _, [], _, _, _, _, h, _ => by simp at h
  | p :: P, w :: vs, 0, m, nd, h1, h2, hk => by
    simp at h1 h2; subst h1; subst h2
    show bindC kindOf ((p, w) :: P.zip vs) m p = _
    unfold bindC
    rw [bindC_out fun v hv => (List.nodup_cons.mp nd).1 (List.of_mem_zip hv).1, if_neg hk]
    simp
  | p :: P, w :: vs, i + 1, m, nd, h1, h2, hk => by
    show bindC kindOf ((p, w) :: P.zip vs) m x = _
    unfold bindC
    exact bindC_get (i := i) (List.nodup_cons.mp nd).2 (by simpa using h1) (by simpa using h2) hk

/-- the names' values at the entry -/
noncomputable def start (N : List Str) (vs : List V) : St := vs.map some ++ List.replicate (N.length - vs.length) none

/-- the context of a def's body, at its entry; an exception leaves the frame, then lies as CX says -/
noncomputable def cxOf (CX : CXT) (P : Program) (w : World) (K : PySem.W.Frag) (mg : Str → Option Value) (base : Heap) (N : List Str) (qual : Str) (scope : Scope) (f : Addr) (cd : Value) (A : Around) (outer : List Env) (s : Shared) (H : Hp) (E : XK) : Cx where
  prog := P
  w := w
  K := K
  mg := mg
  base := base
  A := A.deeper (envOfC qual scope s.heap.objs.size f cd)
  N := N
  s₀ := s
  H₀ := H
  env := envOfC qual scope s.heap.objs.size f cd
  outer := outer
  stack := envOfC qual scope s.heap.objs.size f cd :: outer
  ex := []
  calm := true
  fn := fun _ => true
  pn := []
  xe := fun e s' => wpAny (model P w) (A.deeper (envOfC qual scope s.heap.objs.size f cd)) (leaving (envOfC qual scope s.heap.objs.size f cd) e) (fun _ s'' => CX outer H s E e s'') (fun e' s'' => CX outer H s E e' s'') s'

theorem cell_has {sc : Scope} {n : Nat} {x : Str} (h : sc.names.lookup x = some .cell) : ∃ c, (cellsFrom n sc.names []).lookup x = some c := by
  have q := PySem.W.cellsFrom_some sc.names n [] (.inl h)
  exact Option.isSome_iff_exists.mp q

theorem inv_start {CX : CXT} {P : Program} {w : World} {K : PySem.W.Frag} {mg : Str → Option Value} {base : Heap} {N ps : List Str} {qual : Str} {scope : Scope} {f : Addr} {cd : Value} {A : Around} {outer : List Env} {s s1 : Shared} {H : Hp} {E : XK} {us : List Value} {vs : List V}
    (S : FnScope N ps scope) (hd : A.handled = none) (e0 : Env0 P w K mg base A outer s H) (hl : vs.length = ps.length) (r : Vals vs us)
    (x : InCallC s s.heap.objs.size (bindL (envOfC qual scope s.heap.objs.size f cd).kindOf (ps.zip us) fun _ => none) (cellsFrom (s.heap.objs.size + 1) scope.names []) (bindC (envOfC qual scope s.heap.objs.size f cd).kindOf (ps.zip us) fun _ => none) s1) :
    Inv (cxOf CX P w K mg base N qual scope f cd A outer s H E) [] (start N vs) H s1 := by
  have hpl : ps.length ≤ N.length := by have := congrArg List.length S.pre; rw [List.length_take] at this; omega
  obtain ⟨h1, tk, rfl, hk⟩ := x.done
  have noA : ∀ b : Addr, b ∉ (cxOf CX P w K mg base N qual scope f cd A outer s H E).ex := fun b z => absurd (show b ∈ ([] : List Addr) from z) (by simp)
  refine ⟨⟨e0.mod, S.kind, rfl, rfl, Nat.le_refl _, fun y z c h1 h2 => ?_, fun y hy => ?_, fun y c _ h => ?_, fun _ => hd, Around.frames_deeper e0.frames, .inr ⟨rfl, rfl⟩, fun b z => absurd z (noA b), e0.bs, e0.bsz, fun b _ _ => noA b, fun b z => absurd z (noA b), e0.funs, e0.frf⟩,
    rfl, e0.bare, Un.kept hk, ⟨_, x.toInCall.ns, fun i y v h1 h2 h3 => ?_⟩, fun y c h => ⟨_, x.cell y c h⟩, e0.hok.fresh (Nat.le_refl _), fun y c h => ?_, fun p hp => absurd (show p ∈ ([] : List (Addr × Obj)) from hp) (by simp), e0.hok.kept hk, ?_⟩
  · exact name_of_addr x.apart (PySem.mem_of_lookup h1) (PySem.mem_of_lookup h2)
  · have hy : scope.names.lookup y = some .cell ∨ scope.names.lookup y = some .free := hy
    rcases hy with hy | hy
    · exact cell_has hy
    · exact absurd rfl (S.nofree _ (PySem.mem_of_lookup hy))
  · exact Nat.le_of_lt (x.above y c (PySem.mem_of_lookup h))
  · have hi : i < vs.length := by
      unfold start at h2
      by_cases hi : i < vs.length
      · exact hi
      · rw [List.getElem?_append_right (by simpa using hi)] at h2
        rw [List.getElem?_replicate] at h2
        split at h2 <;> cases h2
    have ha : vs[i]? = some v := by
      unfold start at h2
      rw [List.getElem?_append_left (by simpa using hi), List.getElem?_map] at h2
      cases e : vs[i]? with
      | none => rw [e] at h2; cases h2
      | some a => rw [e] at h2; cases h2; rfl
    obtain ⟨u, hu, rv⟩ := r.get ha
    have hp : ps[i]? = some y := by
      rw [← S.pre, List.getElem?_take_of_lt (by omega)]; exact h1
    have ndP : ps.Nodup := by rw [← S.pre]; exact S.nd.sublist (List.take_sublist _ _)
    refine ⟨u, rv, ?_⟩
    rcases S.par y (List.mem_of_getElem? hp) with k | k
    · exact .inl ⟨k, bindL_get ndP hp hu k⟩
    · obtain ⟨c, e⟩ := cell_has (n := s.heap.objs.size + 1) k
      refine .inr ⟨.inl k, c, e, ?_⟩
      have q := x.cell y c e
      rw [bindC_get ndP hp hu (by show scope.names.lookup y ≠ _; rw [k]; decide)] at q
      exact q
  · exact e0.hok.fresh (Nat.le_of_lt (x.above y c (PySem.mem_of_lookup h)))
  · unfold start
    show _ = N.length
    rw [List.length_append, List.length_map, List.length_replicate]
    omega

/-- THE RULE: a def (or a method) of the text, by its body. The body's reading t is chosen for each entry; it is run at the parameters' values -/
theorem fn_of {CX : CXT} {P : Program} {w : World} {K : PySem.W.Frag} {mg : Str → Option Value} {base : Heap} {k : Nat} {f : Addr} {name qual : Str} {params : Arguments} {body : List Stmt} {scope : Scope} {dV kV doc pm cdv ct oc : Value} {an od : Option Addr}
    {osl : Array (Option Value)} {N ps : List Str} {sp : Sp} (lk : K.lookup f = some ⟨oc, od, .func (PySem.W.fnOf name qual params body scope dV kV doc pm an cdv ct), osl⟩) (hcd : PySem.W.codeIn K cdv qual = true) (S : FnScope N ps scope)
    (len : ∀ vs H Q E, sp vs H Q E → vs.length = ps.length)
    (hbody : ∀ (A : Around) (outer : List Env) (s : Shared) (H : Hp) (vs : List V) (Q : VK) (E : XK), Room k (A.deeper (envOfC qual scope s.heap.objs.size f cdv)) → sp vs H Q E →
      ∃ t, PSs (cxOf CX P w K mg base N qual scope f cdv A outer s H E) body t ∧ t { nx := fun _ H' => Q .non H', rt := Q } (start N vs) H) :
    FnOk P w K mg base CX (k + 1) f (PySem.W.fnOf name qual params body scope dV kV doc pm an cdv ct) ps sp := by
  refine ⟨len, fun A outer s H args us vs Q E hr e0 hb r hsp => ?_⟩
  have hl := len _ _ _ _ hsp
  have KX : K.In s.heap := e0.mod.kin.keeps fun b o e => (e0.bs b o e).1
  have lim : s.heap.NoLimit := e0.mod.nolimit.keeps fun b o e => (e0.bs b o e).1
  have hkind : ∀ y ∈ ps.zip us, scope.names.lookup y.1 = some .local ∨ (scope.names.lookup y.1 = some .cell ∧ ((cellsFrom (s.heap.objs.size + 1) scope.names []).lookup y.1).isSome = true) := fun ⟨n, v⟩ hy => by
    rcases S.par n (List.of_mem_zip hy).1 with q | q
    · exact .inl q
    · exact .inr ⟨q, PySem.W.cellsFrom_some _ _ _ (.inl q)⟩
  refine codeAny_call_function hr.depth (KX _ _ lk) rfl S.co S.gen rfl (PySem.W.codeRec_of KX hcd) (hb _ _ _ _ ?_)
  refine wpAny_newFunctionEnv_cells S.kind hkind fun env he s1 x => ?_
  subst he
  refine ⟨lim.keeps x.toInCall.keep, codeAny_func ?_⟩
  obtain ⟨t, ht, hq⟩ := hbody A outer s H vs Q E (hr.deeper _) hsp
  have I : Inv (cxOf CX P w K mg base N qual scope f cdv A outer s H E) [] (start N vs) H s1 := inv_start S hr.hd e0 hl r x
  refine wpAny_mono (ht [] s1 (start N vs) H _ I hq) (fun fl s' hs => ?_) fun e s' hs => hs
  have fin : ∀ {σ' : St} {H' : Hp} {v : V} {u : Value}, Inv (cxOf CX P w K mg base N qual scope f cdv A outer s H E) [] σ' H' s' → RelV v u → Q v H' → CE outer P w H s Q u s' :=
    fun {σ' H' v u} J rv q => ⟨v, H', J.os, J.bare, J.base, J.hok, rv, q⟩
  cases fl with
  | ret u =>
    obtain ⟨v, σ', H', J, rv, q⟩ := hs
    exact fin J rv q
  | next =>
    obtain ⟨σ', H', J, q⟩ := hs
    exact fin (v := V.non) (u := Value.none) J rfl q
  | brk =>
    obtain ⟨_, _, _, q⟩ := hs
    exact False.elim q
  | cont =>
    obtain ⟨_, _, _, q⟩ := hs
    exact False.elim q
end L2

namespace L2
open PySem PySem.Spec PyProof.Rows
section
variable {X : Cx} {x : Str} {p pos : Pos} {e : Expr} {es : List Expr} {t : TA} {id T : String} {r : List V → Hp → VK → Prop}

noncomputable def tCB (r : List V → Hp → VK → Prop) (t : TA) : TE := fun σ H Q => t σ H fun vs H1 => r vs H1 Q
/-- f(e, ..), f a built-in function -/
theorem pe_callB (hc : CallR X (.builtin id) r) (hg : Gl X x) (hm : X.mg x = none) (hv : bootBuiltins x = some (.builtin id)) (ha : PA X (e :: es) t) (hn : x ≠ "__name__" := by decide) (hdb : (x == ("__debug__" : Str)) = false := by decide)
    (he : starEach (e :: es) X.env = (false, eval e X.env) :: starEach es X.env := by rfl) (hpl : (backTo pos (starEach es X.env)).any (·.1) = false := by rfl) : PE X (.Call (.Name x p) (e :: es) [] pos) (tCB r t) := by
  intro pins s σ H Q I h
  refine wpAny_Call_Name_kw (ld_blt I hg hm hv ?_ hn hdb)
  exact PyProof.Rows.callWith_builtin1 (thn (ha pos pins s σ H _ I h) fun us s1 ⟨vs, H1, I1, r1, q1⟩ => hc pins s1 σ H1 vs us Q I1 r1 q1) he hpl
/-- T(e, ..), T a built-in type -/
theorem pe_callTy (hc : CallR X (.type T) r) (hg : Gl X x) (hm : X.mg x = none) (hv : bootBuiltins x = some (.type T)) (ha : PA X (e :: es) t) (hn : x ≠ "__name__" := by decide) (hdb : (x == ("__debug__" : Str)) = false := by decide)
    (he : starEach (e :: es) X.env = (false, eval e X.env) :: starEach es X.env := by rfl) (hpl : (backTo pos (starEach es X.env)).any (·.1) = false := by rfl) : PE X (.Call (.Name x p) (e :: es) [] pos) (tCB r t) := by
  intro pins s σ H Q I h
  refine wpAny_Call_Name_kw (ld_blt I hg hm hv ?_ hn hdb)
  exact PyProof.Rows.callWith_type1 (thn (ha pos pins s σ H _ I h) fun us s1 ⟨vs, H1, I1, r1, q1⟩ => hc pins s1 σ H1 vs us Q I1 r1 q1) he hpl
end
end L2

namespace HT
open PySem PyProof.Rows

section
open PySem.SeqAt
open PySem.AutoSeq1 (wpAny_loadPart')
open PySem.MeetsSeq PySem.MeetsSeq2 PySem.MeetsSeq3

end

section
variable {prog : Program} {w : World} {A : Around} {E : Value → Shared → Prop} {s : Shared}

/-! ### t[a:b], not the whole -/
/-- a slice's bound as a place among n (d where it is left out) -/
noncomputable def sIx (n d : Nat) : Option Int → Nat
  | none => d
  | some v => if v < 0 then (v + (n : Int)).toNat else min v.toNat n
theorem sIx_none (n d : Nat) : sIx n d none = d := rfl
theorem sIx_nat (n d k : Nat) : sIx n d (some (k : Int)) = min k n := by
  show (if (k : Int) < 0 then ((k : Int) + (n : Int)).toNat else min (k : Int).toNat n) = min k n
  rw [if_neg (by omega), Int.toNat_natCast]
theorem sIx_le (n d : Nat) (hd : d ≤ n) (o : Option Int) : sIx n d o ≤ n := by
  cases o with
  | none => exact hd
  | some v =>
    show (if v < 0 then (v + (n : Int)).toNat else min v.toNat n) ≤ n
    by_cases hv : v < 0
    · rw [if_pos hv]; omega
    · rw [if_neg hv]; exact Nat.min_le_right _ _
theorem clip_eq (v : Int) (n d : Nat) : (if v < 0 then max (v + (n : Int)) 0 else min v (n : Int)) = ((sIx n d (some v) : Nat) : Int) := by
  show (if v < 0 then max (v + (n : Int)) 0 else min v (n : Int)) = (((if v < 0 then (v + (n : Int)).toNat else min v.toNat n) : Nat) : Int)
  by_cases hv : v < 0
  · simp only [if_pos hv]; omega
  · simp only [if_neg hv]; omega
theorem adjust_gen (lo hi : Option Int) (n : Nat) : Builtin.Slice.sliceAdjust lo hi 1 (n : Int) = (((sIx n 0 lo : Nat) : Int), ((sIx n n hi : Nat) : Int)) := by
  have h1 : ¬ ((1 : Int) < 0) := by omega
  unfold Builtin.Slice.sliceAdjust
  simp only [h1, if_false]
  refine Prod.ext ?_ ?_
  · cases lo with
    | none => rfl
    | some v => exact clip_eq v n 0
  · cases hi with
    | none => rfl
    | some v => exact clip_eq v n n
theorem places_gen (i j : Nat) : Builtin.Slice.slicePlaces (i : Int) (j : Int) 1 = j - i := by
  unfold Builtin.Slice.slicePlaces
  have h1 : (1 : Int) > 0 := by omega
  simp only [h1, if_true, Int.ediv_one]
  split <;> omega
theorem slicePart_ {v : Value} {o : Option Int} {Q : Option Int → Shared → Prop} (p : IsPart v o) (h : Q o s) : wpAny (model prog w) A (Builtin.Slice.slicePartIndex v) Q E s := by
  cases p with
  | none => exact slicePart_none h
  | int i t => exact slicePart_int h
theorem sliceApplied_gen {sl : Addr} {vl vu : Value} {lo hi : Option Int} {n : Nat} {Q : Int × Int × Nat → Shared → Prop} (hs : s.heap.IsSliceOf sl vl vu .none) (pl : IsPart vl lo) (pu : IsPart vu hi)
    (h : Q (((sIx n 0 lo : Nat) : Int), 1, sIx n n hi - sIx n 0 lo) s) : wpAny (model prog w) A (Builtin.Slice.sliceApplied (.ref sl) (pure (n : Int))) Q E s := by
  obtain ⟨os, hos, hcs, hds⟩ := id hs
  unfold Builtin.Slice.sliceApplied Builtin.Slice.sliceFields
  refine wpAny_bind (wpAny_bind (wpAny_field hos hds (x := vl) rfl (wpAny_bind (wpAny_field hos hds (x := vu) rfl (wpAny_bind (wpAny_field hos hds (x := .none) rfl (wpAny_pure ?_)))))))
  refine wpAny_bind (slicePart_none ?_)
  show wpAny _ _ (if ((1 : Int) == 0) = true then _ else _) _ _ s
  rw [if_neg (by decide)]
  refine wpAny_bind (slicePart_ pl (wpAny_bind (slicePart_ pu (wpAny_bind (wpAny_pure ?_)))))
  show wpAny _ _ (match Builtin.Slice.sliceAdjust lo hi 1 (n : Int) with | (lo, hi) => pure (lo, (1 : Int), Builtin.Slice.slicePlaces lo hi 1)) _ _ s
  rw [adjust_gen lo hi n]
  show wpAny _ _ (pure (((sIx n 0 lo : Nat) : Int), (1 : Int), Builtin.Slice.slicePlaces ((sIx n 0 lo : Nat) : Int) ((sIx n n hi : Nat) : Int) 1)) _ _ s
  rw [places_gen]
  exact wpAny_pure h
theorem pick_gen (xs : Array Value) (i k : Nat) : ((List.range k).filterMap fun (m : Nat) => xs[((i : Int) + (m : Int) * 1).toNat]?).toArray = ((xs.toList.drop i).take k).toArray := by
  have e : (fun (m : Nat) => xs[((i : Int) + (m : Int) * 1).toNat]?) = fun m => xs[i + m]? := by
    funext m
    have : ((i : Int) + (m : Int) * 1).toNat = i + m := by omega
    rw [this]
  rw [e]
  have := pick_run xs i k
  rw [List.filterMap_map] at this
  have e2 : ((fun x => xs[x]?) ∘ fun x => i + x) = fun m => xs[i + m]? := rfl
  rw [e2] at this
  rw [this]

theorem getItem_tuple_cut {t sl : Addr} {items : Array Value} {vl vu : Value} {lo hi : Option Int} {Q : Value → Shared → Prop} (ht : IsTup s.heap t items) (hs : s.heap.IsSliceOf sl vl vu .none) (pl : IsPart vl lo) (pu : IsPart vu hi)
    (hw : ¬ (sIx items.size 0 lo = 0 ∧ sIx items.size items.size hi = items.size))
    (h : Q (.ref s.heap.objs.size) { s with heap := s.heap.push { cls := .type "tuple", data := .seq ((items.toList.drop (sIx items.size 0 lo)).take (sIx items.size items.size hi - sIx items.size 0 lo)).toArray } })
    (hsz : items.size ≤ sizeLine) : wpAny (model prog w) A (getItem (.ref t) (.ref sl)) Q E s := by
  have htake : sizeOk (.seq ((items.toList.drop (sIx items.size 0 lo)).take (sIx items.size items.size hi - sIx items.size 0 lo)).toArray) := by
    show ((items.toList.drop (sIx items.size 0 lo)).take (sIx items.size items.size hi - sIx items.size 0 lo)).toArray.size ≤ sizeLine
    rw [List.size_toArray, List.length_take, List.length_drop, Array.length_toList]
    omega
  have hj : sIx items.size items.size hi ≤ items.size := sIx_le _ _ (Nat.le_refl _) hi
  obtain ⟨os, hos, hcs, hds⟩ := id hs
  have hTs : s.TypeIs (.ref sl) "slice" := ⟨os, hos, hcs⟩
  unfold getItem
  try with_reducible refine wpAny_holding ?_
  first | refine wpAny_bind (wpAny_pure ?_) | skip
  refine wpAny_bind (wpAny_sequenceKey ht.typeIs (by decide) ?_)
  refine wpAny_bind (wpAny_callSpecial?_slot (name := Str.ofString "__getitem__") ht.typeIs PyProof.Rows.slot_tuple_getitem
    (wpAny_call_entry PyProof.Rows.slot_tuple_getitem ht.typeIs entry_tuple_getitem ?_ (args_tuple_getitem _ _)))
  show wpAny _ _ (Builtin.Tuple.tupleItemsOf (.ref t) >>= _) _ _ s
  refine wpAny_bind (tupleItemsOf_ ht ?_)
  refine wpAny_bind (wpAny_typeOf hTs ?_)
  rw [if_pos (by decide)]
  refine wpAny_bind (sliceApplied_gen hs pl pu ?_)
  have hno : ¬ ((((sIx items.size 0 lo : Nat) : Int) == 0 && (1 : Int) == 1 && (sIx items.size items.size hi - sIx items.size 0 lo) == items.size) = true) := by
    intro q
    rw [Bool.and_eq_true, Bool.and_eq_true] at q
    have q1 : ((sIx items.size 0 lo : Nat) : Int) = 0 := eq_of_beq q.1.1
    have q2 : sIx items.size items.size hi - sIx items.size 0 lo = items.size := eq_of_beq q.2
    exact hw ⟨by omega, by omega⟩
  show wpAny _ _ (if (((sIx items.size 0 lo : Nat) : Int) == 0 && (1 : Int) == 1 && (sIx items.size items.size hi - sIx items.size 0 lo) == items.size) = true then _ else _) _ _ s
  rw [if_neg hno, pick_gen]
  first
    | exact wpAny_bind (m := Builtin.Tuple.tupleExact _) (wpAny_newObj_type (wpAny_pure ⟨_, rfl, wpAny_pure h⟩) htake)
    | exact wpAny_bind (m := Builtin.Tuple.tupleExact _) (wpAny_newObj_type (wpAny_bind (wpAny_pure (wpAny_pure ⟨_, rfl, wpAny_pure h⟩))) htake)
    | exact wpAny_bind (wpAny_bind (m := Builtin.Tuple.tupleExact _) (wpAny_newObj_type (wpAny_pure (wpAny_pure ⟨_, rfl, wpAny_pure h⟩)) htake))
    | exact wpAny_bind (wpAny_bind (m := Builtin.Tuple.tupleExact _) (wpAny_newObj_type (wpAny_pure ⟨_, rfl, wpAny_pure h⟩) htake))
end
end HT

namespace L2
open PySem PySem.Spec PyProof.Rows

/-! ### the parts of a slice -/
noncomputable abbrev TO := St → Hp → (Option Int → Hp → Prop) → Prop
/-- a slice's part (left out, or an int) -/
noncomputable def PO (X : Cx) (e : Option Expr) (t : TO) : Prop :=
  ∀ (pins : List (Addr × Obj)) (s : Shared) (σ : St) (H : Hp) (Q : Option Int → Hp → Prop), Inv X pins σ H s → t σ H Q →
    wpAny (model X.prog X.w) X.A (evalPart e X.env) (fun u s' => ∃ o H', Inv X pins σ H' s' ∧ IsPart u o ∧ Q o H') X.xe s
noncomputable def tNoPart : TO := fun _ H Q => Q none H
noncomputable def tPart (t : TE) : TO := fun σ H Q => t σ H fun x H1 => ∃ i, x = .int i ∧ Q (some i) H1

theorem intsAre_of {ns : List Int} : ∀ {us : List Value}, Vals (ns.map V.int) us → IntsAre us ns := by
  induction ns with
  | nil => intro us r; rw [List.map_nil] at r; cases r; exact .nil
  | cons n ns ih =>
    intro us r
    rw [List.map_cons] at r
    cases r with
    | cons r1 r2 =>
      obtain ⟨t, e⟩ := r1
      subst e
      exact .cons n t (ih r2)

section
variable {X : Cx} {e : Expr} {te : TE} {lo hi : Option Expr} {tl th : TO} {pos p2 : Pos}

theorem po_none : PO X none tNoPart := by
  intro pins s σ H Q I h
  rw [evalPart_none]
  exact wpAny_pure ⟨none, H, I, .none, h⟩
theorem po_some (h : PE X e te) : PO X (some e) (tPart te) := by
  intro pins s σ H Q I hw
  rw [evalPart_some]
  refine thn (h pins s σ H _ I hw) fun u s1 ⟨x, H1, I1, r1, q1⟩ => ?_
  obtain ⟨i, rfl, q⟩ := q1
  obtain ⟨t, rfl⟩ := r1
  exact ⟨some i, H1, I1, .int i t, q⟩

/-- what a slice of a value is, by values: the slice object stands at sl -/
noncomputable def SlR (X : Cx) (r : V → Option Int → Option Int → Hp → VK → Prop) : Prop :=
  ∀ (pins : List (Addr × Obj)) (s : Shared) (σ : St) (H : Hp) (x : V) (v vl vu : Value) (lo hi : Option Int) (sl : Addr) (Q : VK), Inv X pins σ H s → RelV x v → s.heap.IsSliceOf sl vl vu .none → IsPart vl lo → IsPart vu hi → r x lo hi H Q →
    ∃ T id, typeLookup (.type T) "__getitem__" = pure (some (.builtin id)) ∧ s.TypeIs v T ∧ wpAny (model X.prog X.w) X.A (getItem v (.ref sl)) (EP X pins σ Q) X.xe s
noncomputable def tSl (r : V → Option Int → Option Int → Hp → VK → Prop) (te : TE) (tl th : TO) : TE := fun σ H Q => te σ H fun x H1 => tl σ H1 fun l H2 => th σ H2 fun u H3 => r x l u H3 Q
/-- a[lo:hi], any a -/
theorem pe_slice {r : V → Option Int → Option Int → Hp → VK → Prop} (hr : SlR X r) (he : PE X e te) (hl : PO X lo tl) (hu : PO X hi th) : PE X (.Subscript e (.Slice lo hi none p2) pos) (tSl r te tl th) := by
  intro pins s σ H Q I h
  refine Subscript_ (thn (he pins s σ H _ I h) fun v s1 ⟨x, H1, I1, r1, q1⟩ => ?_)
  refine wpAny_Slice (thn (hl pins s1 σ H1 _ I1 q1) fun vl s2 ⟨l, H2, I2, pl, q2⟩ => thn (hu pins s2 σ H2 _ I2 q2) fun vu s3 ⟨u, H3, I3, pu, q3⟩ => ?_)
  rw [evalPart_none]
  refine wpAny_pure ?_
  have I4 : Inv X pins σ H3 { s3 with heap := s3.heap.push { cls := .type "slice", data := .fields #[vl, vu, .none] } } := I3.kept (t' := s3.toks) fun b ob q => Heap.get?_push_of_some _ q
  obtain ⟨T, id, hT, ht, hg⟩ := hr pins { s3 with heap := s3.heap.push { cls := .type "slice", data := .fields #[vl, vu, .none] } } σ H3 x v vl vu l u s3.heap.objs.size Q I4 r1 (Heap.IsSliceOf.new ..) pl pu q3
  show wpAny (model X.prog X.w) X.A (subscriptTail e (.Slice lo hi none p2) v (.ref s3.heap.objs.size)) (EP X pins σ Q) X.xe { s3 with heap := s3.heap.push { cls := .type "slice", data := .fields #[vl, vu, .none] } }
  exact tail_any (ops := [.ref s3.heap.objs.size, v]) ht hT hg (by with_unfolding_all rfl)

/-- the items of xs[lo:hi] -/
noncomputable def cutV (xs : List V) (lo hi : Option Int) : List V := (xs.drop (HT.sIx xs.length 0 lo)).take (HT.sIx xs.length xs.length hi - HT.sIx xs.length 0 lo)
theorem cutV_length (xs : List V) (lo hi : Option Int) : (cutV xs lo hi).length ≤ xs.length := by
  unfold cutV
  rw [List.length_take, List.length_drop]
  omega
/-- t[lo:hi], not the whole of it (the whole would be t itself) -/
noncomputable def rSlT (K : PySem.W.Frag) : V → Option Int → Option Int → Hp → VK → Prop := fun x lo hi H Q => ∃ a xs, x = .ref a ∧ SqT K H a xs ∧
  ¬ (HT.sIx xs.length 0 lo = 0 ∧ HT.sIx xs.length xs.length hi = xs.length) ∧ ∀ p, H p = none → Q (.ref p) (upd H p (.tup (cutV xs lo hi)))
theorem sl_tup : SlR X (rSlT X.K) := by
  intro pins s σ H x v vl vu lo hi sl Q I rx hs pl pu h
  obtain ⟨a, xs, rfl, hx, hw, q⟩ := h
  cases rx
  obtain ⟨its, r, ht, hz⟩ := I.tuple hx
  have hlen : its.toArray.size = xs.length := by rw [List.size_toArray]; exact r.length.symm
  refine ⟨"tuple", _, PyProof.Rows.slot_tuple_getitem.lookup, ht.typeIs, ?_⟩
  refine HT.getItem_tuple_cut ht hs pl pu (by rw [hlen]; exact hw) ?_ (by rw [hlen]; exact hz)
  rw [hlen]
  refine ⟨.ref s.heap.objs.size, _, I.laid (t' := s.toks) (o := .tup (cutV xs lo hi)) (fun b ob q => Heap.get?_push_of_some _ q) (Nat.le_refl _) ?_, rfl, q _ (I.hok.fresh (Nat.le_refl _))⟩
  exact ⟨Nat.le_trans (cutV_length xs lo hi) hz, _, (r.drop (HT.sIx xs.length 0 lo)).take (HT.sIx xs.length xs.length hi - HT.sIx xs.length 0 lo), IsTup.new _ _⟩

/-! ### t < u, t + u -/
end
end L2

namespace L2
open PySem PySem.Spec PyProof.Rows

/-! ### places -/
/-- the place that an index of any sign means -/
noncomputable def ixN (n : Nat) (i : Int) : Option Nat := if 0 ≤ i then (if i < n then some i.toNat else none) else if -(n : Int) ≤ i then some (i + n).toNat else none
noncomputable def atI {α : Type} (xs : List α) (i : Int) : Option α := (ixN xs.length i).bind fun j => xs[j]?
theorem ixN_seq {n : Nat} {i : Int} {j : Nat} (h : ixN n i = some j) : seqIndex? i n = some j ∧ j < n ∧ -(n : Int) ≤ i ∧ i < n := by
  unfold ixN at h
  by_cases h0 : 0 ≤ i
  · rw [if_pos h0] at h
    by_cases h1 : i < n
    · rw [if_pos h1] at h
      have e : i.toNat = j := Option.some.inj h
      exact ⟨by rw [seqIndex_of h0 h1, e], by omega, by omega, h1⟩
    · rw [if_neg h1] at h; cases h
  · rw [if_neg h0] at h
    by_cases h1 : -(n : Int) ≤ i
    · rw [if_pos h1] at h
      have e : (i + n).toNat = j := Option.some.inj h
      exact ⟨by rw [seqIndex_neg (by omega) h1, e], by omega, h1, by omega⟩
    · rw [if_neg h1] at h; cases h
theorem atI_get {α : Type} {xs : List α} {i : Int} {v : α} (h : atI xs i = some v) : ∃ j, seqIndex? i xs.length = some j ∧ xs[j]? = some v ∧ j < xs.length ∧ -(xs.length : Int) ≤ i ∧ i < xs.length := by
  unfold atI at h
  cases e : ixN xs.length i with
  | none => rw [e] at h; cases h
  | some j =>
    rw [e] at h
    obtain ⟨h1, h2, h3, h4⟩ := ixN_seq e
    exact ⟨j, h1, h, h2, h3, h4⟩
theorem atI_nat {α : Type} {xs : List α} {j : Nat} {v : α} (h : xs[j]? = some v) : atI xs (j : Int) = some v := by
  have hj : j < xs.length := (List.getElem?_eq_some_iff.mp h).1
  have e : ixN xs.length (j : Int) = some j := by
    unfold ixN
    rw [if_pos (by omega), if_pos (by omega)]; simp
  unfold atI; rw [e]; exact h
/-! ### what may be subscripted -/
/-- what stands as an index of a plain subscript -/
noncomputable def PlainIx (b : Expr) : Prop := ∀ o i, subscripted b false o i = operate [o, i] (getItem o i)
/-- a subscript by values -/
noncomputable def IxR (X : Cx) (r : R2) : Prop :=
  ∀ (value slice : Expr) (pins : List (Addr × Obj)) (s : Shared) (σ : St) (H : Hp) (x y : V) (v u : Value) (Q : VK), Inv X pins σ H s → RelV x v → RelV y u → r x y H Q →
    subscripted slice false v u = operate [v, u] (getItem v u) → wpAny (model X.prog X.w) X.A (subscriptTail value slice v u) (EP X pins σ Q) X.xe s
/-- a call of a builtin's method by values: the receiver, the arguments -/
noncomputable def MtR (X : Cx) (id : String) (r : V → List V → Hp → VK → Prop) : Prop :=
  ∀ (pins : List (Addr × Obj)) (s : Shared) (σ : St) (H : Hp) (x : V) (xs : List V) (v : Value) (us : List Value) (Q : VK), Inv X pins σ H s → RelV x v → Vals xs us → r x xs H Q →
    wpAny (model X.prog X.w) X.A (call (.builtin id) (v :: us)) (EP X pins σ Q) X.xe s
section
variable {X : Cx} {a b : Expr} {ta tb : TE} {pos : Pos}
/-- a[b] -/
theorem pe_ix {r : R2} (hr : IxR X r) (ha : PE X a ta) (hb : PE X b tb) (hs : PlainIx b) : PE X (.Subscript a b pos) (tOp r ta tb) := by
  intro pins s σ H Q I h
  exact Subscript_ (binT ha hb I h fun v u s2 x y H2 I2 rx ry q => hr a b pins s2 σ H2 x y v u Q I2 rx ry q (hs _ _))

noncomputable def rIxL (K : PySem.W.Frag) : R2 := fun x y H Q => ∃ p xs i v, x = .ref p ∧ y = .int i ∧ SqL K H p xs ∧ atI xs i = some v ∧ Q v H
noncomputable def rIxT (K : PySem.W.Frag) : R2 := fun x y H Q => ∃ p xs i v, x = .ref p ∧ y = .int i ∧ SqT K H p xs ∧ atI xs i = some v ∧ Q v H
theorem ix_list : IxR X (rIxL X.K) := by
  intro value slice pins s σ H x y v u Q I rx ry h hs
  obtain ⟨p, xs, i, z, rfl, rfl, hq, he, q⟩ := h
  cases rx
  obtain ⟨t, rfl⟩ := ry
  obtain ⟨its, r, pl, hz⟩ := I.list hq
  obtain ⟨j, h1, h2, h3, h4, h5⟩ := atI_get he
  obtain ⟨w, ew, rw'⟩ := r.get h2
  have hl := r.length
  have hn := line63
  have fin : EP X pins σ Q w s := ⟨z, H, I, rw', q⟩
  by_cases h0 : 0 ≤ i
  · have hj : i.toNat = j := by
      rw [seqIndex_of h0 h5] at h1
      exact Option.some.inj h1
    exact item_listR pl.isList h0 (by omega) (by rw [hj]; simpa using ew) fin hs
  · have hj : (i + (its.toArray.size : Int)).toNat = j := by
      rw [seqIndex_neg (by omega) h4] at h1
      rw [List.size_toArray, ← hl]
      exact Option.some.inj h1
    exact subscriptTail_builtinR (x := w) pl.isList.typeIs slot_list_getitem.lookup
      (wpAny_getItem_list_neg (Q := fun r s' => r = w ∧ EP X pins σ Q r s') pl.isList (by omega) (by rw [List.size_toArray] <;> omega) (by omega) (by rw [hj]; simpa using ew) ⟨rfl, fin⟩) hs
theorem ix_tup : IxR X (rIxT X.K) := by
  intro value slice pins s σ H x y v u Q I rx ry h hs
  obtain ⟨p, xs, i, z, rfl, rfl, hq, he, q⟩ := h
  cases rx
  obtain ⟨t, rfl⟩ := ry
  obtain ⟨its, r, pl, hz⟩ := I.tuple hq
  obtain ⟨j, h1, h2, h3, h4, h5⟩ := atI_get he
  obtain ⟨w, ew, rw'⟩ := r.get h2
  have hl := r.length
  have hn := line63
  have fin : EP X pins σ Q w s := ⟨z, H, I, rw', q⟩
  exact subscriptTail_builtinR (x := w) pl.typeIs slot_tuple_getitem.lookup
    (getItem_tuple (j := j) (Q := fun r s' => r = w ∧ EP X pins σ Q r s') pl (by omega) (by omega) (by rw [List.size_toArray, ← hl]; exact h1) (by simpa using ew) ⟨rfl, fin⟩) hs
/-! ### xs[i] = v, any sign -/
/-- the list's object behind a store -/
theorem mapSeq_set (its : List Value) (n j : Nat) (u : Value) : Obj.mapSeq (·.setIfInBounds j u) { cls := .type "list", data := .seq its.toArray n } = { cls := .type "list", data := .seq (its.set j u).toArray n } := by
  simp [Obj.mapSeq]
theorem Inv.lst {pins : List (Addr × Obj)} {σ : St} {H : Hp} {s : Shared} {p : Addr} {xs : List V} (I : Inv X pins σ H s) (h : H p = some (.lst xs)) :
    ∃ (its : List Value) (n : Nat), Vals xs its ∧ s.heap.get? p = some { cls := .type "list", data := .seq its.toArray n } ∧ xs.length ≤ sizeLine := by
  obtain ⟨z, its, n, r, e⟩ := I.hok p _ h
  exact ⟨its, n, r, e, z⟩
/-- the list at p is written by an update of its object -/
theorem Inv.lstUpd {pins : List (Addr × Obj)} {σ : St} {H : Hp} {s : Shared} {p : Addr} {xs ys : List V} {its its' : List Value} {n n' : Nat} {f : Obj → Obj} (I : Inv X pins σ H s) (h : H p = some (.lst xs))
    (ho : s.heap.get? p = some { cls := .type "list", data := .seq its.toArray n }) (hf : f { cls := .type "list", data := .seq its.toArray n } = { cls := .type "list", data := .seq its'.toArray n' }) (r : Vals ys its') (hz : ys.length ≤ sizeLine) (t : Nat) :
    Inv X pins σ (upd H p (.lst ys)) { s with heap := s.heap.update p f, toks := t } := by
  have e : (s.heap.update p f).get? p = some { cls := .type "list", data := .seq its'.toArray n' } := by
    rw [Heap.get?_update_self f ho (by rw [hf] <;> rfl), hf]
  refine I.write (x := p) (e := p) (by rw [h]; trivial) (.inl rfl) (fun b u hb q => (Heap.get?_update_other _ _ (Ne.symm hb)).trans q) ⟨_, e⟩ ?_
  exact ⟨hz, its', n', r, e⟩
noncomputable def rSetL : V → V → V → Hp → (Hp → Prop) → Prop := fun o i v H Q => ∃ p xs k j, o = .ref p ∧ i = .int k ∧ H p = some (.lst xs) ∧ ixN xs.length k = some j ∧ Q (upd H p (.lst (xs.set j v)))
theorem set_list : PSet X rSetL := by
  intro pins s σ H o i v ov iv u Q I ro ri rv h
  obtain ⟨p, xs, k, j, rfl, rfl, hp, hj, q⟩ := h
  cases ro
  obtain ⟨t, rfl⟩ := ri
  obtain ⟨its, n, r, ho, hz⟩ := I.lst hp
  obtain ⟨h1, h2, h3, h4⟩ := ixN_seq hj
  have hl := r.length
  have hn := line63
  have I' : Inv X pins σ (upd H p (.lst (xs.set j v))) { s with heap := s.heap.update p (Obj.mapSeq (·.setIfInBounds j u)) } :=
    I.lstUpd hp ho (mapSeq_set its n j u) (r.set rv j) (by rw [List.length_set]; exact hz) s.toks
  by_cases h0 : 0 ≤ k
  · have hk : k.toNat = j := by
      rw [seqIndex_of h0 h4] at h1
      exact Option.some.inj h1
    exact PySem.W.ki_setAt ho h0 (by omega) (by rw [List.size_toArray, ← hl]; exact h4) (by rw [hk]; exact ⟨_, I', q⟩)
  · have hk : (k + (its.toArray.size : Int)).toNat = j := by
      rw [seqIndex_neg (by omega) h3] at h1
      rw [List.size_toArray, ← hl]
      exact Option.some.inj h1
    exact PySem.W.ki_setBack ho (by omega) (by rw [List.size_toArray, ← hl]; exact h3) (by omega) (by rw [hk]; exact ⟨_, I', q⟩)

/-! ### slices -/
theorem slice_bounds (lo hi : Option Int) (n : Nat) : (sliceBounds lo hi none n).1 = ((HT.sIx n 0 lo : Nat) : Int) ∧ (sliceBounds lo hi none n).2.1 = ((HT.sIx n n hi : Nat) : Int) ∧ (sliceBounds lo hi none n).2.2 = 1 := by
  refine ⟨?_, ?_, rfl⟩
  · cases lo with
    | none => simp [sliceBounds, HT.sIx]
    | some i =>
      simp only [sliceBounds, HT.sIx, Option.getD_none, show (1 : Int) > 0 by decide, if_true]
      by_cases h : i < 0
      · simp only [h, if_true] <;> omega
      · simp only [h, if_false] <;> omega
  · cases hi with
    | none => simp [sliceBounds, HT.sIx]
    | some i =>
      simp only [sliceBounds, HT.sIx, Option.getD_none, show (1 : Int) > 0 by decide, if_true]
      by_cases h : i < 0
      · simp only [h, if_true] <;> omega
      · simp only [h, if_false] <;> omega
theorem slicePick_cut (its : List Value) (lo hi : Option Int) : slicePick its.toArray lo hi none = ((its.drop (HT.sIx its.length 0 lo)).take (HT.sIx its.length its.length hi - HT.sIx its.length 0 lo)).toArray := by
  obtain ⟨h1, h2, h3⟩ := slice_bounds lo hi its.toArray.size
  unfold slicePick
  rw [h1, h2, h3]
  simp only [sliceRange_one, pick_run, List.size_toArray] <;> rfl
/-- xs[lo:hi] of a list: a new list -/
noncomputable def rSlL (K : PySem.W.Frag) : V → Option Int → Option Int → Hp → VK → Prop := fun x lo hi H Q => ∃ a xs, x = .ref a ∧ SqL K H a xs ∧ ∀ p, H p = none → Q (.ref p) (upd H p (.lst (cutV xs lo hi)))
theorem sl_list : SlR X (rSlL X.K) := by
  intro pins s σ H x v vl vu lo hi sl Q I rx hs pl pu h
  obtain ⟨a, xs, rfl, hx, q⟩ := h
  cases rx
  obtain ⟨its, r, ht, hz⟩ := I.list hx
  have hlen := r.length
  refine ⟨"list", _, slot_list_getitem.lookup, ht.isList.typeIs, ?_⟩
  refine wpAny_getItem_list_slice ht.isList hs pl pu .none (by simp) ?_ (by rw [List.size_toArray] <;> omega)
  rw [slicePick_cut, ← hlen]
  refine ⟨.ref s.heap.objs.size, _, I.laid (t' := s.toks) (o := .lst (cutV xs lo hi)) (fun b ob q => Heap.get?_push_of_some _ q) (Nat.le_refl _) ?_, rfl, q _ (I.hok.fresh (Nat.le_refl _))⟩
  exact ⟨Nat.le_trans (cutV_length xs lo hi) hz, _, 0, (r.drop (HT.sIx xs.length 0 lo)).take (HT.sIx xs.length xs.length hi - HT.sIx xs.length 0 lo), Heap.get?_push_size _ rfl⟩

/-! ### in, not in: flat items -/
noncomputable def flatV : V → Bool
  | .non => true
  | .bl _ => true
  | .int _ => true
  | .str _ => true
  | _ => false
/-- == of flat values -/
noncomputable def eqV : V → V → Bool
  | .non, .non => true
  | .bl a, .bl b => a == b
  | .bl a, .int b => (if a then 1 else 0) == b
  | .int a, .bl b => a == (if b then 1 else 0)
  | .int a, .int b => a == b
  | .str a, .str b => a == b
  | _, _ => false
theorem eqAt_V {A : Around} {s : Shared} {y x : V} {u v : Value} (ry : RelV y u) (rx : RelV x v) (fy : flatV y = true) (fx : flatV x = true) : SeqAt.EqAt A s u v (eqV y x) := by
  cases y with
  | non =>
    cases ry
    cases x with
    | non => cases rx; exact SeqAt.EqAt.same _
    | bl b => cases rx; exact SeqAt.EqAt.none_bool b
    | int b => obtain ⟨t, rfl⟩ := rx; exact SeqAt.EqAt.none_int b t
    | str b => obtain ⟨t, rfl⟩ := rx; exact SeqAt.EqAt.none_str b t
    | _ => exact absurd (show false = true from fx) Bool.false_ne_true
  | bl a =>
    cases ry
    cases x with
    | non => cases rx; exact SeqAt.EqAt.bool_none a
    | bl b => cases rx; exact SeqAt.EqAt.bool_bool a b
    | int b => obtain ⟨t, rfl⟩ := rx; exact SeqAt.EqAt.bool_int a b t
    | str b => obtain ⟨t, rfl⟩ := rx; exact SeqAt.EqAt.bool_str a b t
    | _ => exact absurd (show false = true from fx) Bool.false_ne_true
  | int a =>
    obtain ⟨t', rfl⟩ := ry
    cases x with
    | non => cases rx; exact SeqAt.EqAt.int_none a t'
    | bl b => cases rx; exact SeqAt.EqAt.int_bool a t' b
    | int b => obtain ⟨t, rfl⟩ := rx; exact SeqAt.EqAt.int_int a t' b t
    | str b => obtain ⟨t, rfl⟩ := rx; exact SeqAt.EqAt.int_str a t' b t
    | _ => exact absurd (show false = true from fx) Bool.false_ne_true
  | str a =>
    obtain ⟨t', rfl⟩ := ry
    cases x with
    | non => cases rx; exact SeqAt.EqAt.str_none a t'
    | bl b => cases rx; exact SeqAt.EqAt.str_bool a t' b
    | int b => obtain ⟨t, rfl⟩ := rx; exact SeqAt.EqAt.str_int a t' b t
    | str b => obtain ⟨t, rfl⟩ := rx; exact SeqAt.EqAt.str_str a t' b t
    | _ => exact absurd (show false = true from fx) Bool.false_ne_true
  | _ => exact absurd (show false = true from fy) Bool.false_ne_true
/-- the items' answers, read off the values (a value's own answer does not lean on its token) -/
noncomputable def eqU (x : V) (u : Value) : Bool := match u with
  | .none => eqV .non x
  | .bool b => eqV (.bl b) x
  | .int i _ => eqV (.int i) x
  | .str z _ => eqV (.str z) x
  | _ => false
theorem eqU_of {x y : V} {u : Value} (r : RelV y u) (f : flatV y = true) : eqU x u = eqV y x := by
  cases y with
  | non => cases r; rfl
  | bl b => cases r; rfl
  | int i => obtain ⟨t, rfl⟩ := r; rfl
  | str z => obtain ⟨t, rfl⟩ := r; rfl
  | _ => exact absurd (show false = true from f) Bool.false_ne_true
theorem any_eqU {x : V} : ∀ {xs : List V} {us : List Value}, Vals xs us → xs.all flatV = true → us.any (eqU x) = xs.any fun y => eqV y x
  | _, _, .nil, _ => rfl
  | y :: xs, u :: us, .cons r t, f => by
    rw [List.all_cons, Bool.and_eq_true] at f
    rw [List.any_cons, List.any_cons, eqU_of r f.1, any_eqU t f.2]
theorem mem_eqAt {A : Around} {s : Shared} {x : V} {v : Value} (rx : RelV x v) (fx : flatV x = true) : ∀ {xs : List V} {us : List Value}, Vals xs us → xs.all flatV = true → ∀ u ∈ us, SeqAt.EqAt A s u v (eqU x u)
  | _, _, .nil, _ => fun u hu => by cases hu
  | y :: xs, u :: us, .cons r t, f => fun u' hu => by
    rw [List.all_cons, Bool.and_eq_true] at f
    rcases List.mem_cons.mp hu with rfl | hu
    · rw [eqU_of r f.1]; exact eqAt_V r rx f.1 fx
    · exact mem_eqAt rx fx t f.2 u' hu
noncomputable def inV (x : V) (xs : List V) : Bool := xs.any fun y => eqV y x
/-- x in a list or tuple of flat items -/
noncomputable def rIn (K : PySem.W.Frag) (neg : Bool) : R2 := fun x y H Q => ∃ p xs, y = .ref p ∧ (SqL K H p xs ∨ SqT K H p xs) ∧ flatV x = true ∧ xs.all flatV = true ∧ Q (.bl (if neg then !inV x xs else inV x xs)) H
theorem op_in_seq : OpR X (compareOp .In) (rIn X.K false) := by
  intro pins s σ H x y v u Q I rx ry h
  obtain ⟨p, xs, rfl, hq, fx, fs, q⟩ := h
  cases ry
  rcases hq with hq | hq
  · obtain ⟨its, r, pl, hz⟩ := I.list hq
    refine SeqAt.in_listAt (eqU x) pl.isList (fun w hw => mem_eqAt rx fx r fs w (by simpa using hw)) ⟨.bl _, H, I, rfl, ?_⟩
    rw [show its.toArray.any (eqU x) = its.any (eqU x) by simp, any_eqU r fs]
    exact q
  · obtain ⟨its, r, pl, hz⟩ := I.tuple hq
    refine SeqAt.in_tupleAt (eqU x) pl (fun w hw => mem_eqAt rx fx r fs w (by simpa using hw)) ⟨.bl _, H, I, rfl, ?_⟩
    rw [show its.toArray.any (eqU x) = its.any (eqU x) by simp, any_eqU r fs]
    exact q
theorem op_notIn_seq : OpR X (compareOp .NotIn) (rIn X.K true) := by
  intro pins s σ H x y v u Q I rx ry h
  obtain ⟨p, xs, rfl, hq, fx, fs, q⟩ := h
  cases ry
  rcases hq with hq | hq
  · obtain ⟨its, r, pl, hz⟩ := I.list hq
    refine SeqAt.notIn_listAt (eqU x) pl.isList (fun w hw => mem_eqAt rx fx r fs w (by simpa using hw)) ⟨.bl _, H, I, rfl, ?_⟩
    rw [show its.toArray.any (eqU x) = its.any (eqU x) by simp, any_eqU r fs]
    exact q
  · obtain ⟨its, r, pl, hz⟩ := I.tuple hq
    refine SeqAt.notIn_tupleAt (eqU x) pl (fun w hw => mem_eqAt rx fx r fs w (by simpa using hw)) ⟨.bl _, H, I, rfl, ?_⟩
    rw [show its.toArray.any (eqU x) = its.any (eqU x) by simp, any_eqU r fs]
    exact q
/-! ### len, list(x), tuple(x) of any list or tuple that is read -/
theorem call_len_seq : CallR X (.builtin "len") (fun xs H Q => ∃ p ys, xs = [.ref p] ∧ (SqL X.K H p ys ∨ SqT X.K H p ys) ∧ Q (.int ys.length) H) := by
  intro pins s σ H xs us Q I r h
  obtain ⟨p, ys, rfl, hq, q⟩ := h
  obtain ⟨u, rfl, rx⟩ := vals1 r
  cases rx
  have hn := line63
  rcases hq with hq | hq
  · obtain ⟨its, r', pl, hz⟩ := I.list hq
    have hlen := r'.length
    exact Calls.call_len_list pl.isList (by simp only [List.size_toArray] <;> omega) ⟨.int ys.length, H, I.tok _, ⟨s.toks + 1, by rw [List.size_toArray, hlen]⟩, q⟩
  · obtain ⟨its, r', pl, hz⟩ := I.tuple hq
    have hlen := r'.length
    exact len_tuple pl (by simp only [List.size_toArray] <;> omega) ⟨.int ys.length, H, I.tok _, ⟨s.toks + 1, by rw [List.size_toArray, hlen]⟩, q⟩
theorem call_list_of : CallR X (.type "list") (fun xs H Q => ∃ p ys, xs = [.ref p] ∧ (SqL X.K H p ys ∨ SqT X.K H p ys) ∧ ∀ l, H l = none → Q (.ref l) (upd H l (.lst ys))) := by
  intro pins s σ H xs us Q I r h
  obtain ⟨p, ys, rfl, hq, q⟩ := h
  obtain ⟨u, rfl, rx⟩ := vals1 r
  cases rx
  have fin : ∀ (its : List Value), Vals ys its → ys.length ≤ sizeLine → ∀ (h' : Heap) (c' : Nat), (∀ b o', s.heap.get? b = some o' → h'.get? b = some o') →
      h'.get? s.heap.objs.size = some { cls := .type "list", dict := none, data := .seq its.toArray c', slots := #[] } → EP X pins σ Q (.ref s.heap.objs.size) { s with heap := h' } := fun its r' hz h' c' kp e =>
    ⟨.ref s.heap.objs.size, _, I.laid (t' := s.toks) kp (Nat.le_refl _) (show ObjOk X.prog X.w _ h' _ (.lst ys) from ⟨hz, its, c', r', e⟩), rfl, q _ (I.hok.fresh (Nat.le_refl _))⟩
  rcases hq with hq | hq
  · obtain ⟨its, r', pl, hz⟩ := I.list hq
    have hlen := r'.length
    obtain ⟨o, ho, hc, n, hd⟩ := pl.isList
    exact call_list_seq p (.inl rfl) ho hc hd (fun h' c' kp e => fin its r' hz h' c' kp e) (by simp only [List.size_toArray] <;> omega)
  · obtain ⟨its, r', pl, hz⟩ := I.tuple hq
    have hlen := r'.length
    obtain ⟨o, ho, hc, n, hd⟩ := pl
    exact call_list_seq p (.inr rfl) ho hc hd (fun h' c' kp e => fin its r' hz h' c' kp e) (by simp only [List.size_toArray] <;> omega)
theorem call_tuple_of : CallR X (.type "tuple") (fun xs H Q => ∃ p ys, xs = [.ref p] ∧ ((SqL X.K H p ys ∧ ∀ l, H l = none → Q (.ref l) (upd H l (.tup ys))) ∨ (SqT X.K H p ys ∧ Q (.ref p) H))) := by
  intro pins s σ H xs us Q I r h
  obtain ⟨p, ys, rfl, h⟩ := h
  obtain ⟨u, rfl, rx⟩ := vals1 r
  cases rx
  rcases h with ⟨hq, q⟩ | ⟨hq, q⟩
  · obtain ⟨its, r', pl, hz⟩ := I.list hq
    have hlen := r'.length
    refine call_tuple_list pl.isList (fun h' kp => ?_) (by simp only [List.size_toArray] <;> omega)
    have I1 : Inv X pins σ H { s with heap := h' } := I.kept (t' := s.toks) kp
    have I2 : Inv X pins σ (upd H h'.objs.size (.tup ys)) { s with heap := h'.push { cls := .type "tuple", data := .seq its.toArray } } :=
      I1.laid (t' := s.toks) (fun b o e => Heap.get?_push_of_some _ e) (Nat.le_refl _) (show ObjOk X.prog X.w _ _ _ (.tup ys) from ⟨hz, its, r', IsTup.new _ _⟩)
    exact ⟨.ref h'.objs.size, _, I2, rfl, q _ (I1.hok.fresh (Nat.le_refl _))⟩
  · obtain ⟨its, r', pl, hz⟩ := I.tuple hq
    exact call_tuple_same pl ⟨.ref p, H, I, rfl, q⟩

/-! ### the call of a builtin's method: o.m(..) -/
/-- the value is of that builtin type -/
noncomputable def tyV (K : PySem.W.Frag) (T : String) (x : V) (H : Hp) : Prop := match x with
  | .str _ => T = "str"
  | .int _ => T = "int"
  | .ref p => (T = "list" ∧ ∃ xs, SqL K H p xs) ∨ (T = "tuple" ∧ ∃ o, K.lookup p = some o ∧ o.cls = .type "tuple" ∧ o.dict = none) ∨
      (T = "dict" ∧ ((∃ kvs, H p = some (.dK kvs)) ∨ ∃ kvs, H p = some (.dT kvs))) ∨ (T = "set" ∧ ∃ S n, H p = some (.set S n))
  | _ => False
theorem tyV_is {pins : List (Addr × Obj)} {σ : St} {H : Hp} {s : Shared} {T : String} {x : V} {v : Value} (I : Inv X pins σ H s) (r : RelV x v) (ty : tyV X.K T x H) :
    s.TypeIs v T ∧ ∀ a, v = .ref a → ∃ ob, s.heap.get? a = some ob ∧ ob.dict = none := by
  cases x with
  | str z =>
    obtain ⟨t, rfl⟩ := r
    cases (show T = "str" from ty)
    exact ⟨typeIs_str s z t, fun _ e => nomatch e⟩
  | int i =>
    obtain ⟨t, rfl⟩ := r
    cases (show T = "int" from ty)
    exact ⟨typeIs_int s i t, fun _ e => nomatch e⟩
  | ref p =>
    cases r
    rcases ty with ⟨rfl, xs, hq⟩ | ⟨rfl, o, hk, hc, hd⟩ | ⟨rfl, hk⟩ | ⟨rfl, S, n, hk⟩
    · obtain ⟨its, _, pl, _⟩ := I.list hq
      refine ⟨pl.isList.typeIs, fun a e => ?_⟩
      cases e
      obtain ⟨o, n, e, c, hd, _⟩ := pl
      exact ⟨o, e, hd⟩
    · refine ⟨⟨o, I.kIn p o hk, hc⟩, fun a e => ?_⟩
      cases e
      exact ⟨o, I.kIn _ o hk, hd⟩
    · have z : ∃ o, s.heap.get? p = some o ∧ o.ExactDict := by
        rcases hk with ⟨kvs, hk⟩ | ⟨kvs, hk⟩
        · obtain ⟨_, _, _, _, o, _, _, e, ex, _⟩ := I.hok p _ hk
          exact ⟨o, e, ex⟩
        · obtain ⟨_, _, _, _, o, _, _, e, ex, _⟩ := I.hok p _ hk
          exact ⟨o, e, ex⟩
      obtain ⟨o, e, ex⟩ := z
      refine ⟨⟨o, e, ex.1⟩, fun a e2 => ?_⟩
      cases e2
      exact ⟨o, e, ex.2.1⟩
    · obtain ⟨o, _, _, _, e, ex, _⟩ := I.hok p _ hk
      refine ⟨⟨o, e, ex.1⟩, fun a e2 => ?_⟩
      cases e2
      exact ⟨o, e, ex.2.1⟩
  | _ => exact False.elim ty
noncomputable def tBM0 (K : PySem.W.Frag) (T : String) (r : V → List V → Hp → VK → Prop) (to : TE) : TE := fun σ H Q => to σ H fun x H1 => tyV K T x H1 ∧ r x [] H1 Q
noncomputable def tBM (K : PySem.W.Frag) (T : String) (r : V → List V → Hp → VK → Prop) (to : TE) (t : TA) : TE := fun σ H Q => to σ H fun x H1 => tyV K T x H1 ∧ t σ H1 fun xs H2 => r x xs H2 Q
variable {o e : Expr} {es : List Expr} {to : TE} {t : TA} {name : Str} {apos cpos : Pos} {T id : String} {r : V → List V → Hp → VK → Prop}
theorem pe_bm0 (pa : PlainAttrs T) (slot : Slot T name id) (hty : typeOf (.builtin id) = pure (.type "method_descriptor")) (hm : MtR X id r) (ho : PE X o to)
    (hbase : attributeBase o name X.env (eval o X.env) = eval o X.env := by rfl) (hline : (apos.endLine == cpos.line) = true := by rfl) : PE X (.Call (.Attribute o name apos) [] [] cpos) (tBM0 X.K T r to) := by
  intro pins s σ H Q I h
  refine wpAny_Call_method0_late hbase hline (thn (ho pins s σ H _ I h) fun v s1 ⟨x, H1, I1, r1, ty, q1⟩ => ?_)
  obtain ⟨h1, h2⟩ := tyV_is I1 r1 ty
  exact ⟨T, id, pa, slot, hty, h1, h2, Calls.callWith_builtin rfl (PySem.evalArgs_none (hm pins s1 σ H1 x [] v [] Q I1 r1 .nil q1))⟩
theorem pe_bm (pa : PlainAttrs T) (slot : Slot T name id) (hty : typeOf (.builtin id) = pure (.type "method_descriptor")) (hm : MtR X id r) (ho : PE X o to) (ha : PA X (e :: es) t)
    (hbase : attributeBase o name X.env (eval o X.env) = eval o X.env := by rfl)
    (hfew : ((backTo cpos (starEach (e :: es) X.env)).all (fun x => !x.1) && (backToKw cpos (keywordEach [] X.env)).all (fun x => x.1.isSome)
      && decide ((e :: es).length + ([] : List Keyword).length + (if ([] : List Keyword).isEmpty then 0 else 1) < 30)) = true := by rfl)
    (hline : (apos.endLine == cpos.line) = true := by rfl) (hs : starEach (e :: es) X.env = (false, eval e X.env) :: starEach es X.env := by rfl) (hplain : (backTo cpos (starEach es X.env)).any (·.1) = false := by rfl) :
    PE X (.Call (.Attribute o name apos) (e :: es) [] cpos) (tBM X.K T r to t) := by
  intro pins s σ H Q I h
  refine wpAny_Call_method_late hbase hfew hline rfl (thn (ho pins s σ H _ I h) fun v s1 ⟨x, H1, I1, r1, ty, q1⟩ => ?_)
  obtain ⟨h1, h2⟩ := tyV_is I1 r1 ty
  refine ⟨T, id, pa, slot, hty, h1, h2, ?_⟩
  have hA := ha cpos pins s1 σ H1 _ I1 q1
  rw [hs] at hA ⊢
  refine Calls.callWith_builtin (by show (false || (backTo cpos (starEach es X.env)).any (·.1)) = false; rw [hplain] <;> rfl) (Calls.evalArgs_plain ?_)
  exact thn hA fun us s2 ⟨vs, H2, I2, r2, q2⟩ => hm pins s2 σ H2 x vs v us Q I2 r1 r2 q2
/- xs.append(e), list.index on a module's tuple .. are MtR facts of 06m -/
end
end L2

namespace L2
open PySem PySem.Spec PyProof.Rows

noncomputable def MtM (X : Cx) (id : String) (r : V → List V → Hp → VK → Prop) : Prop :=
  ∀ (pins : List (Addr × Obj)) (s : Shared) (σ : St) (H : Hp) (x : V) (xs : List V) (v : Value) (us : List Value) (Q : VK), Inv X pins σ H s → RelV x v → Vals xs us → r x xs H Q →
    wpAny (model X.prog X.w) X.A (call (.builtin id) (v :: us)) (EP X pins σ Q) X.xe s

/-! ### lists of values -/
theorem Vals.one : ∀ {x : V} {us : List Value}, Vals [x] us → ∃ u, us = [u] ∧ RelV x u
  | _, _, .cons r .nil => ⟨_, rfl, r⟩
theorem Vals.two : ∀ {x y : V} {us : List Value}, Vals [x, y] us → ∃ u v, us = [u, v] ∧ RelV x u ∧ RelV y v
  | _, _, _, .cons r (.cons q .nil) => ⟨_, _, rfl, r, q⟩
theorem Vals.zero : ∀ {us : List Value}, Vals [] us → us = []
  | _, .nil => rfl
theorem Vals.dropLast {xs : List V} {us : List Value} (h : Vals xs us) : Vals xs.dropLast us.dropLast := by
  induction h with
  | nil => exact .nil
  | cons r t ih =>
    cases t with
    | nil => exact .nil
    | cons q t' => exact .cons r ih
theorem Vals.reverse {xs : List V} {us : List Value} (h : Vals xs us) : Vals xs.reverse us.reverse := by
  induction h with
  | nil => exact .nil
  | cons r t ih => rw [List.reverse_cons, List.reverse_cons]; exact Vals.append ih (.cons r .nil)
theorem erase_last {α : Type} (l : List α) : l.eraseIdx (l.length - 1) = l.dropLast := by
  induction l with
  | nil => rfl
  | cons a r ih =>
    cases r with
    | nil => rfl
    | cons b r =>
      have e : (a :: b :: r).length - 1 = ((b :: r).length - 1) + 1 := by
        have h1 : (a :: b :: r).length = r.length + 2 := rfl
        have h2 : (b :: r).length = r.length + 1 := rfl
        omega
      rw [e, List.eraseIdx_cons_succ, ih]
      all_goals rfl
section
variable {X : Cx} {pins : List (Addr × Obj)} {σ : St} {H : Hp} {s : Shared} {l b : Addr} {xs ys zs : List V}

/-! ### the two steps: a tracked list is rewritten, a new list is laid -/
theorem Inv.lset {its its' : List Value} {n : Nat} {f : Array Value → Array Value} {t' : Nat} (I : Inv X pins σ H s) (hH : H l = some (.lst xs))
    (e : s.heap.get? l = some { cls := .type "list", data := .seq its.toArray n }) (hf : f its.toArray = its'.toArray) (hv : Vals ys its') (hz : ys.length ≤ sizeLine) :
    Inv X pins σ (upd H l (.lst ys)) { s with heap := s.heap.update l (Obj.mapSeq f), toks := t' } := by
  have q := PySem.IsL.update e f
  rw [hf] at q
  refine I.write (x := l) (e := l) (by rw [hH]; exact trivial) (.inl rfl) (fun b' u hb hu => (Heap.get?_update_other s.heap (Obj.mapSeq f) (Ne.symm hb)).trans hu) ⟨_, q⟩ ?_
  exact ⟨hz, its', _, hv, q⟩
theorem Inv.lnew {its : List Value} {t' : Nat} (I : Inv X pins σ H s) (hv : Vals ys its) (hz : ys.length ≤ sizeLine) :
    Inv X pins σ (upd H s.heap.objs.size (.lst ys)) { s with heap := s.heap.push { cls := .type "list", data := .seq its.toArray }, toks := t' } :=
  I.laid (fun _ _ q => Heap.get?_push_of_some _ q) (Nat.le_refl _) ⟨hz, its, 0, hv, Heap.get?_push_size _ rfl⟩
theorem Inv.fresh (I : Inv X pins σ H s) : H s.heap.objs.size = none := I.hok.fresh (Nat.le_refl _)
theorem Inv.lstM (I : Inv X pins σ H s) (hH : H l = some (.lst xs)) : xs.length ≤ sizeLine ∧ ∃ (its : List Value) (n : Nat), Vals xs its ∧ xs.length = its.length ∧ s.heap.get? l = some { cls := .type "list", data := .seq its.toArray n } := by
  obtain ⟨z, its, n, r, e⟩ := I.hok l _ hH
  exact ⟨z, its, n, r, r.length, e⟩

theorem notLongL {n : Nat} (h : n ≤ sizeLine) : Builtin.List.listTooLong n = false := by
  unfold Builtin.List.listTooLong
  exact decide_eq_false (by omega)
end

section
variable {X : Cx}

/-! ### methods -/
noncomputable def rAppend : V → List V → Hp → VK → Prop := fun x vs H Q => ∃ l xs y, x = .ref l ∧ vs = [y] ∧ H l = some (.lst xs) ∧ xs.length < sizeLine ∧ Q .non (upd H l (.lst (xs ++ [y])))
theorem mt_append : MtM X "list.append" rAppend := by
  intro pins s σ H x vs v us Q I rx rv h
  obtain ⟨l, xs, y, rfl, rfl, hH, hz, q⟩ := h
  cases rx
  obtain ⟨u, rfl, ru⟩ := rv.one
  obtain ⟨z, its, n, r, hl, e⟩ := I.lstM hH
  refine call_meets F.slot_list_append ⟨_, e, rfl⟩ F.entry_list_append (F.args_list_append_2 _ _) (PySem.list_append l its.toArray n u (by rw [List.size_toArray]; omega)) ⟨e, ?_⟩
  refine ⟨.non, _, I.lset (its' := its ++ [u]) hH e (by simp) (r.append (.cons ru .nil)) ?_, rfl, q⟩
  rw [List.length_append, List.length_singleton]
  omega

noncomputable def rExtend : V → List V → Hp → VK → Prop := fun x vs H Q => ∃ l b xs zs, x = .ref l ∧ vs = [.ref b] ∧ H l = some (.lst xs) ∧ H b = some (.lst zs) ∧ xs.length + zs.length ≤ sizeLine ∧ Q .non (upd H l (.lst (xs ++ zs)))
theorem mt_extend : MtM X "list.extend" rExtend := by
  intro pins s σ H x vs v us Q I rx rv h
  obtain ⟨l, b, xs, zs, rfl, rfl, hH, hB, hz, q⟩ := h
  cases rx
  obtain ⟨u, rfl, ru⟩ := rv.one
  cases ru
  obtain ⟨z, its, n, r, hl, e⟩ := I.lstM hH
  obtain ⟨z2, its2, n2, r2, hl2, e2⟩ := I.lstM hB
  have hsz : its.toArray.size + its2.toArray.size ≤ sizeLine := by rw [List.size_toArray, List.size_toArray]; omega
  have hlong : ¬ (!its.toArray.isEmpty && Builtin.List.listTooLong (its.toArray.size + its2.toArray.size)) = true := by
    rw [notLongL hsz, Bool.and_false]
    exact Bool.false_ne_true
  refine call_meets F.slot_list_extend ⟨_, e, rfl⟩ F.entry_list_extend (F.args_list_extend_2 _ _)
    (AutoSeq1.list_extend_list_list_0 l its.toArray n b its2.toArray n2 hlong (by rw [List.size_toArray]; omega) (by omega)) ⟨e, e2, ?_⟩
  refine ⟨.non, _, I.lset (its' := its ++ its2) hH e (by simp) (r.append r2) ?_, rfl, q⟩
  rw [List.length_append]
  omega

noncomputable def rPop : V → List V → Hp → VK → Prop := fun x vs H Q => ∃ l xs y, x = .ref l ∧ vs = [] ∧ H l = some (.lst xs) ∧ xs[xs.length - 1]? = some y ∧ Q y (upd H l (.lst xs.dropLast))
theorem mt_pop : MtM X "list.pop" rPop := by
  intro pins s σ H x vs v us Q I rx rv h
  obtain ⟨l, xs, y, rfl, rfl, hH, hy, q⟩ := h
  cases rx
  have hus := rv.zero
  subst hus
  obtain ⟨z, its, n, r, hl, e⟩ := I.lstM hH
  obtain ⟨u, hu, ru⟩ := r.get hy
  have hy' : its.toArray[its.toArray.size - 1]? = some u := by
    show its.toArray[its.length - 1]? = some u
    rw [← Array.getElem?_toList, ← hl]
    exact hu
  refine call_meets F.slot_list_pop ⟨_, e, rfl⟩ F.entry_list_pop (F.args_list_pop_1 _) (MeetsSeq.list_pop_last l its.toArray n u hy' (by rw [List.size_toArray]; omega)) ⟨e, ?_⟩
  refine ⟨y, _, I.lset (its' := its.dropLast) hH e ?_ r.dropLast ?_, ru, q⟩
  · show its.toArray.eraseIdxIfInBounds (its.toArray.size - 1) = its.dropLast.toArray
    rw [List.size_toArray, List.eraseIdxIfInBounds_toArray, erase_last]
  · rw [List.length_dropLast]
    omega

/-! ### list + list, list += list, list * int -/
noncomputable def rCat : R2 := fun x y H Q => ∃ l b xs zs, x = .ref l ∧ y = .ref b ∧ H l = some (.lst xs) ∧ H b = some (.lst zs) ∧ xs.length + zs.length ≤ sizeLine ∧ ∀ p, H p = none → Q (.ref p) (upd H p (.lst (xs ++ zs)))
theorem op_cat : OpR X (binaryOp .Add) rCat := by
  intro pins s σ H x y v u Q I rx ry h
  obtain ⟨l, b, xs, zs, rfl, rfl, hH, hB, hz, q⟩ := h
  cases rx
  cases ry
  obtain ⟨z, its, n, r, hl, e⟩ := I.lstM hH
  obtain ⟨z2, its2, n2, r2, hl2, e2⟩ := I.lstM hB
  refine PySem.P.add_list e e2 ?_ (by rw [List.size_toArray, List.size_toArray]; omega)
  have ea : its.toArray ++ its2.toArray = (its ++ its2).toArray := by simp
  rw [ea]
  exact ⟨.ref _, _, I.lnew (t' := s.toks) (r.append r2) (by rw [List.length_append]; omega), rfl, q _ I.fresh⟩
/-! ### del xs[i] -/
end

/-! ### xs[a:b] = ys -/
section
variable {prog : Program} {w : World} {A : Around} {E : Value → Shared → Prop} {s : Shared}
end

section
variable {X : Cx}
end
end L2

namespace Att
open PySem PySem.W PySem.Calls PyProof.Rows

/-! ### the script -/
theorem ints_of_wellAll {P : Params} {h : Heap} : ∀ (ns : List Int) (vs : List Value), WellAll P h vs (ns.map WData.int) → IntsAre vs ns := by
  intro ns
  induction ns with
  | nil =>
    intro vs w
    rw [List.map_nil] at w
    cases w
    exact .nil
  | cons n ns ih =>
    intro vs w
    rw [List.map_cons] at w
    cases w with
    | cons a b =>
      cases a
      exact .cons _ _ (ih _ b)

theorem script_of {l : OpenLaw} {n : Nat} (hn : l.most = some n) {P : Params} {h : Heap} {args : List WData} {vals : List Value}
    (hpre : l.row.toRowW.claim.pre args = true) (hwl : WellAll P h vals args) :
    ∃ a vs ns, vals = [Value.ref a] ∧ args = [WData.list (ns.map WData.int)] ∧ h.get? a = some { cls := .type "list", data := .seq vs.toArray } ∧ IntsAre vs ns ∧ ns.length ≤ n := by
  have hsh : WShape.hasAll [] args [.list .int] = true := (pre_splitW hpre).1
  have hc : l.pre.holds [] { args := args } = true := (pre_splitW hpre).2
  obtain ⟨d, r, rfl, h1, h2⟩ := hasAllW_cons hsh
  obtain rfl := hasAllW_nil h2
  obtain ⟨xs, rfl, h3⟩ := hasW_list h1
  obtain ⟨ns, rfl⟩ := items_int h3
  have hlen : ns.length ≤ n := by
    unfold OpenLaw.pre at hc
    have h4 : (WTm.not (.lt (.lit (.int (n : Int))) (.len (.arg 0)))).holds [] { args := [.list (ns.map .int)] } = true := by
      have h4 := (holds_andW hc).1
      rw [hn] at h4
      exact h4
    have h5 := condW_of h4 (w_not (w_lt w_lit (w_len_list (w_arg rfl))))
    rw [List.length_map] at h5
    refine Nat.le_of_not_lt fun q => ?_
    have q' : (n : Int) < ((ns.length : Nat) : Int) := by omega
    first
      | (rw [decide_eq_true q'] at h5; exact absurd h5 (by decide))
      | (simp at h5; omega)
  cases hwl with
  | cons w1 w2 =>
    cases w2
    cases w1 with
    | list ho hall => exact ⟨_, _, ns, rfl, rfl, ho, ints_of_wellAll ns _ hall, hlen⟩

theorem post_true (l : OpenLaw) (args : List WData) : l.row.toRowW.claim.post args (.bool true) args = true :=
  postW_of (r := l.row.toRowW) (X := (true == true))
    (show WShape.has [] (.bool true) .bool = true by first | rfl | decide | simp [WShape.has, WShape.arms, WShape.armsAll])
    (show (WTm.eq .res (.lit (.bool true))).value [] { args := args, res := some (.bool true), after := args } = some (.bool (true == true)) from w_eq_bool (w_res rfl) w_lit) rfl

/-! ### the attachment: holds_open's last premise (the goal 'hc' behind k_head) from a wpAny of the law's body -/
/-- the same from a codeAny of the CALL (for a layer whose function contracts speak of calls) -/
theorem attach_call {l : OpenLaw} {n : Nat} {q : Program} {loose : List Str} {XP : (Str → Option Value) → Heap → Prop} {YP : World → Heap → Prop} {d : DefRec}
    (hn : l.most = some n) (hdf : d.params.defaults = [])
    (call : ∀ (w : World) (s₀ s₁ : Shared) (mg mb : Str → Option Value) (fa : Addr) (o : Obj) (pm cd doc : Value) (a : Addr) (vs : List Value) (ns : List Int),
      Ground q loose [] XP w s₀ mg mb s₁.heap → YP w s₁.heap →
      s₁.heap.get? fa = some o → o.data = .func (docDef d.name d.params d.body d.scope pm cd doc) → s₁.heap.CodeRec cd d.name → mg d.name = some (.ref fa) →
      s₁.heap.get? a = some { cls := .type "list", data := .seq vs.toArray } → IntsAre vs ns → ns.length ≤ n → s₁.gens = #[] →
      codeAny (model l.prog w) callerA (.call (.ref fa) ⟨[.ref a], []⟩) (fun r s' => r = .ok (.ret (.bool true)) ∧ OldK s₁.heap s'.heap ∧ s'.os = s₁.os ∧ AllBare s'.gens) s₁) :
    WalkO q loose XP YP l.row.toRowW d [] (fun f vs => PySem.call f vs) := by
  intro w s₀ s₁ mg mb G Y fa o pm cd doc dV kV ho hd hcd hD hmg hg args vals as hpre hlay hrd hwl hlo
  obtain rfl : dV = .none := Dflts.none hD hdf
  obtain rfl : kV = .none := Dflts.noKw hD
  obtain ⟨a, vs, ns, rfl, rfl, hobj, hints, hlen⟩ := script_of hn hpre hwl
  refine enter_call (codeAny_mono (call w s₀ s₁ mg mb fa o pm cd doc a vs ns G Y ho (fd_plain hd) hcd hmg hobj hints hlen hg) fun r s' hq => ?_)
  obtain ⟨rfl, h2, h3, h4⟩ := hq
  exact ⟨.inl ⟨.bool true, .bool true, [], rfl, fun _ => rfl, .bool true, post_true l _, fun _ => ⟨List.Pairwise.nil, fun _ hm => (nomatch hm)⟩⟩, h2, h3, h4⟩

/-! ### rules over ANY heap (no ledger) from facts about the written part K: the library's own take a ledger (News) for what they write -/
section
variable {prog : Program} {w : World} {A : Around} {E : Value → Shared → Prop} {s : Shared} {K : Frag}

/-! the whole heap as the ledger: makes every rule that writes through a ledger a rule over any heap -/
end
end Att

namespace L2
open PySem PySem.Spec PyProof.Rows

theorem vals_ints : ∀ {vs : List Value} {ns : List Int}, IntsAre vs ns → Vals (ns.map V.int) vs
  | _, _, .nil => .nil
  | _, _, .cons n t h => .cons ⟨t, rfl⟩ (vals_ints h)

/-- nothing is tracked but the script, known to the object (or it is an object of the module) -/
noncomputable def Only (H : Hp) : Prop := ∀ b, H b = none ∨ ∃ o xs, H b = some (.frz o (.lst xs))

/-- THE HEAD: the law's promise, at the heap behind the top. F, the promise of the law's def, may use that base is part of the heap (so K.In base, base.Ns mainGlobals mg stand in Mod) -/
theorem law_call {P : Program} {w : World} {K : PySem.W.Frag} {mg mb : Str → Option Value} {CX : CXT} {k : Nat} {fa a : Addr} {fd : FuncData} {x : Str} {sp : Sp} {s₁ : Shared} {vs : List Value} {ns : List Int}
    (KX : K.In s₁.heap) (hns : s₁.heap.Ns mainGlobals mg) (hb : s₁.heap.Ns builtinsNs mb) (hbb : ∀ x : Str, x ≠ "__name__" → mb x = bootBuiltins x) (hlim : s₁.heap.NoLimit) (hg : s₁.gens = #[])
    (ha : s₁.heap.get? a = some { cls := .type "list", data := .seq vs.toArray }) (hi : IntsAre vs ns) (hl : ns.length ≤ sizeLine) (hr : Room k callerA)
    (F : ∀ base : Heap, K.In base → base.Ns mainGlobals mg → FnOk P w K mg base CX k fa fd [x] sp) (hbind : ∀ (s : Shared) (u : Value), BindsTo s fd ⟨[u], []⟩ [(x, u)])
    (hsp : ∀ H : Hp, Only H → SqL K H a (ns.map V.int) → sp [.ref a] H (fun v _ => v = .bl true) fun _ _ _ => False)
    (hCX : ∀ H e s', CX [] H s₁ (fun _ _ _ => False) e s' → False) :
    codeAny (model P w) callerA (.call (.ref fa) ⟨[.ref a], []⟩) (fun r s' => r = .ok (.ret (.bool true)) ∧ OldK s₁.heap s'.heap ∧ s'.os = s₁.os ∧ AllBare s'.gens) s₁ := by
  have rv := vals_ints hi
  have lenV := hi.length
  -- from an abstract heap in which nothing but the script may be tracked
  have core : ∀ H : Hp, Only H → SqL K H a (ns.map V.int) → HOk P w H s₁.heap → (∀ b, H b ≠ none → b = a) → (H a ≠ none → K.lookup a = none) →
      codeAny (model P w) callerA (.call (.ref fa) ⟨[.ref a], []⟩) (fun r s' => r = .ok (.ret (.bool true)) ∧ OldK s₁.heap s'.heap ∧ s'.os = s₁.os ∧ AllBare s'.gens) s₁ := by
    intro H hO hS hok hA hK
    have base_of : ∀ {b : Addr} {o : Obj}, s₁.heap.get? b = some o → H b = none → (hidT s₁.heap H).get? b = some o := fun e n => hidT_get e n
    have noA : ∀ {b : Addr} {o : Obj} {es : Array DictEntry} {ep : Nat}, s₁.heap.get? b = some o → o.data = .dict es ep → H b = none := fun {b o es ep} e d => by
      cases q : H b with
      | none => rfl
      | some u =>
        have e' : b = a := hA b (by rw [q]; simp)
        subst e'
        rw [ha] at e; cases e
        have d' : Data.seq vs.toArray _ = Data.dict es ep := d
        cases d'
    have nsK : ∀ {b : Addr} {m : Str → Option Value}, s₁.heap.Ns b m → (hidT s₁.heap H).Ns b m := fun {b m} ⟨o, es, ep, e, d, r⟩ => ⟨o, es, ep, base_of e (noA e d), d, r⟩
    have hKb : K.In (hidT s₁.heap H) := fun b o e => base_of (KX b o e) (by
      cases q : H b with
      | none => rfl
      | some u =>
        have e' : b = a := hA b (by rw [q]; simp)
        subst e'
        rw [hK (by rw [q]; simp)] at e; cases e)
    have hM : Mod K mg (hidT s₁.heap H) := ⟨hKb, nsK hns, ⟨mb, nsK hb, hbb⟩, let ⟨mc, h1, h2⟩ := hlim; ⟨mc, nsK h1, h2⟩⟩
    have e0 : Env0 P w K mg (hidT s₁.heap H) callerA [] s₁ H := ⟨rfl, hM, fun b o e => of_hidT e, Nat.le_of_eq (hidT_size _ _), trivial, fun b hb => absurd (show b ∈ ([] : List Addr) from hb) (by simp), hok, .of_eq hg⟩
    refine codeAny_mono ((F _ hKb (nsK hns)).run callerA [] s₁ H ⟨[.ref a], []⟩ [.ref a] [.ref a] _ _ hr e0 (hbind s₁ (.ref a)) (.cons rfl .nil) (hsp H hO hS)) fun r s' h => ?_
    cases r with
    | error e => exact (hCX H e s' h).elim
    | ok fl =>
      cases fl with
      | next => exact False.elim h
      | brk => exact False.elim h
      | cont => exact False.elim h
      | ret u =>
        obtain ⟨v, H', os, bare, un, hok', r', q⟩ := h
        have q' : v = .bl true := q
        subst q'
        obtain rfl : u = Value.bool true := r'
        refine ⟨rfl, OldK.of_keep fun b o e => ?_, os, bare⟩
        cases q : H b with
        | none => exact un.keep b o e q (by intro z; exact absurd (show b ∈ ([] : List Addr) from z) (by simp)) (by simp)
        | some u =>
          rcases hO b with z | ⟨ob, xs, z⟩
          · rw [q] at z; cases z
          · have z2 := un.frzs b ob _ z
            obtain ⟨e1, _⟩ := hok b _ z
            obtain ⟨e2, _⟩ := hok' b _ z2
            rw [e] at e1; cases e1
            exact e2
  cases hk : K.lookup a with
  | some o =>
    -- the script is one of the module's own objects
    have e := KX a o hk
    rw [ha] at e
    cases e
    refine core (fun _ => none) (fun _ => .inl rfl) (.inr ⟨_, vs.toArray, _, hk, rfl, rfl, rfl, by rw [List.size_toArray, lenV]; exact hl, by simpa using rv⟩) (fun b u z => by have z' : (none : Option HO) = some u := z; cases z') (fun b z => absurd rfl z) fun z => absurd rfl z
  | none =>
    refine core (fun b => if b = a then some (.frz { cls := .type "list", data := .seq vs.toArray } (.lst (ns.map V.int))) else none) (fun b => ?_) (.inl (.inr ⟨{ cls := .type "list", data := .seq vs.toArray }, if_pos rfl⟩)) (fun b u z => ?_) (fun b z => ?_) fun _ => hk
    · by_cases hb : b = a
      · exact .inr ⟨_, _, if_pos hb⟩
      · exact .inl (if_neg hb)
    · by_cases hb : b = a
      · have z' := (if_pos hb).symm.trans z
        cases z'
        subst hb
        exact ⟨ha, by rw [List.length_map]; exact hl, vs, _, rv, ha⟩
      · have z' := (if_neg hb).symm.trans z
        cases z'
    · by_cases hb : b = a
      · exact hb
      · exact absurd (if_neg hb) z
end L2

namespace L2
open PySem PySem.Spec PyProof.Rows

/-- the goal that k_head leaves (case hc), from the law's promise. F gives the function object fd (K's own) once, then the promise over every base -/
theorem walk_of {l : PySem.W.OpenLaw} {n k : Nat} {q : Program} {loose : List Str} {XP : (Str → Option Value) → Heap → Prop} {YP : World → Heap → Prop} {d : DefRec} {K : Params → PySem.W.Frag} {CX : World → CXT} {sp : World → Sp} {x : Str}
    (hn : l.most = some n) (hn2 : n ≤ sizeLine) (hdf : d.params.defaults = []) (hr : Room k callerA)
    (hY : ∀ (w : World) (h : Heap), YP w h → (K w.params).In h)
    (F : ∀ (w : World) (mg : Str → Option Value) (fa : Addr) (h : Heap), (K w.params).In h → h.Ns mainGlobals mg → mg d.name = some (.ref fa) →
      ∃ fd : FuncData, (∀ (s : Shared) (u : Value), BindsTo s fd ⟨[u], []⟩ [(x, u)]) ∧
        ∀ base : Heap, (K w.params).In base → base.Ns mainGlobals mg → FnOk l.prog w (K w.params) mg base (CX w) k fa fd [x] (sp w))
    (hsp : ∀ (w : World) (H : Hp) (a : Addr) (ns : List Int), ns.length ≤ n → Only H → SqL (K w.params) H a (ns.map V.int) → sp w [.ref a] H (fun v _ => v = .bl true) fun _ _ _ => False)
    (hCX : ∀ (w : World) (H : Hp) (s : Shared) (e : Value) (s' : Shared), CX w [] H s (fun _ _ _ => False) e s' → False) :
    PySem.W.WalkO q loose XP YP l.row.toRowW d [] (fun f vs => PySem.call f vs) := by
  refine Att.attach_call hn hdf fun w s₀ s₁ mg mb fa o pm cd doc a vs ns G Y ho hd hcd hmg hobj hints hlen hg => ?_
  have KX := hY w _ Y
  obtain ⟨fd, hb, hF⟩ := F w mg fa _ KX G.T.g hmg
  exact law_call KX G.T.g G.T.b G.T.builtins G.T.nolimit hg hobj hints (Nat.le_trans hlen hn2) hr hF hb (fun H hO hS => hsp w H a ns hlen hO hS) fun H e s' => hCX w H s₁ e s'
end L2

/- THE LAST THEOREM (shape; LID, My.* are yours):
   My.Adr: a structure of the addresses that your layer names (classes, functions); My.Txt K t: a structure (Prop) of the equations over K;
   My.txt_mk : {K} {implicit addresses ..} (e1 : nsIn K mainGlobals "law" = some (some (.ref f))) (e2 : K.lookup f = some ⟨oc, od, .func (fnOf "law" "law" params body scope dV kV doc pm an cdv ct), sl⟩) (e3 : codeIn K cdv "law" = true) .. : ∃ t, My.Txt K t

set_option maxRecDepth 100000 in
set_option maxHeartbeats 0 in
theorem PySem.Challenge.cw_LID_holds : PySem.Challenge.rw_LID.Holds := by
  w_on; o_law; k_head; (case hw => w_witness2)
  k_fill
  refine L2.walk_of (l := PySem.Challenge.rw_LID) (n := 63) (k := 40) (x := "script") (CX := fun w => ..) (sp := fun _ => My.sp_law) rfl (by decide) rfl ⟨rfl, by decide, by decide⟩ (fun w h Y => PySem.W.kIn_of Y) ?F ?S ?C
  case F =>
    intro w mg fa h KX G hmg
    have T : ∃ t, My.Txt (L2.KOf KX) t := by
      dsimp only [L2.KOf]                          -- K must stand as «<heap const> w.params» for k_is
      refine' My.txt_mk ?e1 ?e2 ?e3 ..
      (case e1 => PySem.W.k_is)                    -- in the order: a name -> its address -> its object -> its parts
      (case e2 => PySem.W.k_is)
      ..
    obtain ⟨t, T⟩ := T
    have e0 := hmg.symm.trans (PySem.W.mg_of KX G T.law)
    cases e0                                       -- fa is the law's own address
    exact ⟨_, fun s u => .of_eq rfl, fun base kb nb => My.law_fn T kb nb⟩     -- if «.of_eq rfl» comes too early: refine' ⟨_, ?b, fun base kb nb => My.law_fn T kb nb⟩; exact fun s u => .of_eq rfl
  case S => exact fun w H a ns hl hO hS => ..
  case C => exact ..
(the tactic k_is has no namespace: write k_is) -/

/-! SHORT WORDS over the layer: a def of the text, its body, what a loop and a test want. -/
namespace L2
open PySem PySem.Spec PyProof.Rows

/-! ### the text by places -/
noncomputable def defArgs (s : Stmt) : Arguments := match s with
  | .FunctionDef _ a _ _ _ _ _ _ _ _ => a
  | _ => { posonlyargs := [], args := [], vararg := none, kwonlyargs := [], kw_defaults := [], kwarg := none, defaults := [] }
noncomputable def defBody (s : Stmt) : List Stmt := match s with
  | .FunctionDef _ _ b _ _ _ _ _ _ _ => b
  | _ => []
noncomputable def defScope (s : Stmt) : Scope := match s with
  | .FunctionDef _ _ _ _ _ _ sc _ _ _ => sc
  | _ => { kind := .function, names := [], isGenerator := false, isCoroutine := false }

/-! ### no exception leaves a def -/
noncomputable abbrev CX0 : CXT := fun _ _ _ _ _ _ => False
noncomputable abbrev E0 : XK := fun _ _ _ => False
theorem pass0 {X : Cx} : Passes CX0 X E0 := fun _ _ _ _ _ _ _ h => h.elim

/-! ### a def (or method) of the text as it stands behind the top -/
structure Fun (K : PySem.W.Frag) (x qual : Str) (st : Stmt) (f : Addr) (fd : FuncData) : Prop where
  ex : ∃ (oc : Value) (od : Option Addr) (kV doc pm : Value) (an : Option Addr) (cdv ct : Value) (osl : Array (Option Value)),
    fd = PySem.W.fnOf x qual (defArgs st) (defBody st) (defScope st) .none kV doc pm an cdv ct ∧ K.lookup f = some ⟨oc, od, .func fd, osl⟩ ∧ PySem.W.codeIn K cdv qual = true
  kp : PySem.W.keepIn K (.ref f) = true
section
variable {P : Program} {w : World} {K : PySem.W.Frag} {mg : Str → Option Value} {base : Heap}
/-- THE RULE for a def: its body as a term of rules, and the reading of that term -/
theorem Fun.ok {x qual : Str} {st : Stmt} {f : Addr} {fd : FuncData} {N ps : List Str} {k : Nat} {sp : Sp} (F : Fun K x qual st f fd) (S : FnScope N ps (defScope st)) (len : ∀ vs H Q E, sp vs H Q E → vs.length = ps.length)
    (hbody : ∀ (cdv : Value) (A : Around) (outer : List Env) (s : Shared) (H : Hp) (vs : List V) (Q : VK) (E : XK), Room k (A.deeper (envOfC qual (defScope st) s.heap.objs.size f cdv)) → sp vs H Q E →
      ∃ t, PSs (cxOf CX0 P w K mg base N qual (defScope st) f cdv A outer s H E).nox (defBody st) t ∧ t { nx := fun _ H' => Q .non H', rt := Q } (start N vs) H) : FnOk P w K mg base CX0 (k + 1) f fd ps sp := by
  obtain ⟨oc, od, kV, doc, pm, an, cdv, ct, osl, rfl, lk, hcd⟩ := F.ex
  refine fn_of lk hcd S len fun A outer s H vs Q E hr hsp => ?_
  obtain ⟨t, h, q⟩ := hbody cdv A outer s H vs Q E hr hsp
  exact ⟨t, h.nox, q⟩
/-- how its arguments bind (no defaults): h is «fun _ _ _ _ _ _ us hl => match us, hl with | [_, _], _ => rfl», one _ a parameter -/
theorem Fun.binds {x qual : Str} {st : Stmt} {f : Addr} {fd : FuncData} {ps : List Str} (F : Fun K x qual st f fd)
    (h : ∀ (kV doc pm : Value) (an : Option Addr) (cdv ct : Value) (us : List Value), us.length = ps.length → bindArgs (PySem.W.fnOf x qual (defArgs st) (defBody st) (defScope st) .none kV doc pm an cdv ct) ⟨us, []⟩ = pure (ps.zip us)) : Binds K fd ps [] := by
  obtain ⟨oc, od, kV, doc, pm, an, cdv, ct, osl, rfl, lk, hcd⟩ := F.ex
  exact .all (h kV doc pm an cdv ct)
theorem fun_mk {x qual : Str} {st : Stmt} {f : Addr} {oc : Value} {od an : Option Addr} {osl : Array (Option Value)} {kV doc pm cdv ct : Value} (l : K.lookup f = some ⟨oc, od, .func (PySem.W.fnOf x qual (defArgs st) (defBody st) (defScope st) .none kV doc pm an cdv ct), osl⟩)
    (c : PySem.W.codeIn K cdv qual = true) (k : PySem.W.keepIn K (.ref f) = true) : Fun K x qual st f (PySem.W.fnOf x qual (defArgs st) (defBody st) (defScope st) .none kV doc pm an cdv ct) := ⟨⟨oc, od, kV, doc, pm, an, cdv, ct, osl, rfl, l, c⟩, k⟩
end
/-! ### expressions in short: the name that stands in the i-th slot -/
section
variable {X : Cx}
theorem pv (i : Nat) {x : Str} {pos : Pos} (hN : X.N[i]? = some x := by rfl) (hv : Vis X.env.scope x := by first | exact Or.inl rfl | exact Or.inr (Or.inl rfl) | exact Or.inr (Or.inr rfl)) (hd : (x == ("__debug__" : Str)) = false := by decide)
    (hcd : (x == ("__classdict__" : Str)) = false := by decide) : PE X (.Name x pos) (tVar i) := pe_var hN hv hd hcd
end

/-! ### tests -/
theorem iteF {A B : Prop} (h : B) : if false = true then A else B := by
  rw [if_neg Bool.false_ne_true]
  exact h
theorem iteT {A B : Prop} (h : A) : if true = true then A else B := by
  rw [if_pos rfl]
  exact h
theorem ite2 {c A B : Prop} [Decidable c] (h1 : c → A) (h2 : ¬ c → B) : if c then A else B := by
  by_cases h : c
  · rw [if_pos h]
    exact h1 h
  · rw [if_neg h]
    exact h2 h
/-! ### heaps -/
/-- all that was tracked is as it was -/
noncomputable def Same (H H' : Hp) : Prop := ∀ b o, H b = some o → H' b = some o
theorem Same.refl (H : Hp) : Same H H := fun _ _ h => h
theorem Same.trans {H H1 H2 : Hp} (a : Same H H1) (b : Same H1 H2) : Same H H2 := fun c o h => b c o (a c o h)
theorem Same.seq {K : PySem.W.Frag} {H H' : Hp} {a : Addr} {xs : List V} (e : Same H H') (h : SqL K H a xs) : SqL K H' a xs := by
  rcases h with (h | ⟨o, h⟩) | h
  · exact .inl (.inl (e _ _ h))
  · exact .inl (.inr ⟨o, e _ _ h⟩)
  · exact .inr h

end L2
end
section
/-! The tree of questions of a sort, asked of keys that are all unlike, sorts. -/
namespace L2
open PySem PySem.W PyProof.Rows
set_option maxHeartbeats 4000000
set_option Elab.async false
set_option linter.unusedVariables false
/-- the places, in some order -/
structure Pm (n : Nat) (p : Array Nat) : Prop where
  perm : p.toList.Perm (List.range n)
section
variable {n : Nat} {p : Array Nat}
theorem Pm.size (h : Pm n p) : p.size = n := by
  have := h.perm.length_eq
  rw [List.length_range, Array.length_toList] at this
  exact this
theorem Pm.lt (h : Pm n p) (n0 : 0 < n) (j : Nat) : p.getD j 0 < n := by
  by_cases c : j < p.size
  · have e : p.getD j 0 = p[j] := by simp [Array.getD, c]
    rw [e]
    exact List.mem_range.mp (h.perm.mem_iff.mp (by simp))
  · have e : p.getD j 0 = 0 := by simp [Array.getD, c]
    rw [e]
    exact n0
theorem Pm.inj (h : Pm n p) {i j : Nat} (hi : i < n) (hj : j < n) (e : p.getD i 0 = p.getD j 0) : i = j := by
  have hi' : i < p.size := by rw [h.size]; exact hi
  have hj' : j < p.size := by rw [h.size]; exact hj
  have e1 : p.getD i 0 = p[i] := by simp [Array.getD, hi']
  have e2 : p.getD j 0 = p[j] := by simp [Array.getD, hj']
  have nd : p.toList.Nodup := h.perm.nodup_iff.mpr List.nodup_range
  rw [e1, e2] at e
  have pw := List.pairwise_iff_getElem.mp nd
  rcases Nat.lt_trichotomy i j with c | c | c
  · exact absurd (by rw [Array.getElem_toList, Array.getElem_toList]; exact e) (pw i j _ _ c)
  · exact c
  · exact absurd (by rw [Array.getElem_toList, Array.getElem_toList]; exact e.symm) (pw j i _ _ c)
theorem Pm.of (h : Pm n p) {q : Array Nat} (hq : q.Perm p) : Pm n q := ⟨(Array.perm_iff_toList_perm.mp hq).trans h.perm⟩
theorem getD_of? {p : Array Nat} {q : Array Nat} {i j : Nat} (h : p[i]? = q[j]?) : p.getD i 0 = q.getD j 0 := by
  rw [Array.getD_eq_getD_getElem?, Array.getD_eq_getD_getElem?, h]
end
/-- the first k rise -/
noncomputable def Up (key : Nat → Int) (p : Array Nat) (k : Nat) : Prop := ∀ j, 1 ≤ j → j < k → key (p.getD (j - 1) 0) < key (p.getD j 0)
theorem Up.lt {key : Nat → Int} {p : Array Nat} {k : Nat} (h : Up key p k) : ∀ (d i : Nat), i + d + 1 < k → key (p.getD i 0) < key (p.getD (i + d + 1) 0)
  | 0, i, hi => h (i + 1) (by omega) hi
  | d + 1, i, hi => Int.lt_trans (Up.lt h d i (by omega)) (h (i + (d + 1) + 1) (by omega) hi)
theorem Up.lt' {key : Nat → Int} {p : Array Nat} {k i j : Nat} (h : Up key p k) (hij : i < j) (hj : j < k) : key (p.getD i 0) < key (p.getD j 0) := by
  have := h.lt (j - i - 1) i (by omega)
  rwa [show i + (j - i - 1) + 1 = j by omega] at this
section
variable {cmp : Nat → Nat → (Bool → Shared → Prop) → Shared → Prop} {key : Nat → Int} {J : Shared → Prop} {n : Nat} {s : Shared}
/-- each question is answered by the keys -/
noncomputable def Told (cmp : Nat → Nat → (Bool → Shared → Prop) → Shared → Prop) (key : Nat → Int) (J : Shared → Prop) (n : Nat) : Prop :=
  ∀ i j (C : Bool → Shared → Prop) s, i < n → j < n → J s → (∀ s', J s' → C (decide (key i < key j)) s') → cmp i j C s
theorem go_asc (A : Told cmp key J n) {p : Array Nat} (hp : Pm n p) (n0 : 0 < n) {Q : Nat → Shared → Prop} : ∀ (f m : Nat) (s : Shared), J s → 1 ≤ m → m + f = n →
    (∀ m' s', J s' → m ≤ m' → m' ≤ n → (∀ j, m ≤ j → j < m' → ¬ key (p.getD j 0) < key (p.getD (j - 1) 0)) → (m' < n → key (p.getD m' 0) < key (p.getD (m' - 1) 0)) → Q m' s') → (kas_asc p f m).kasWp cmp Q s
  | 0, m, s, hJ, h1, hf, q => q m s hJ (Nat.le_refl _) (by omega) (fun j a b => by omega) (fun z => by omega)
  | f + 1, m, s, hJ, h1, hf, q => by
    refine A _ _ _ s (hp.lt n0 _) (hp.lt n0 _) hJ fun s' hJ' => ?_
    by_cases c : key (p.getD m 0) < key (p.getD (m - 1) 0)
    · rw [decide_eq_true c]
      dsimp only
      rw [if_pos rfl]
      exact q m s' hJ' (Nat.le_refl _) (by omega) (fun j a b => by omega) fun _ => c
    · rw [decide_eq_false c]
      dsimp only
      rw [if_neg Bool.false_ne_true]
      refine go_asc A hp n0 f (m + 1) s' hJ' (by omega) (by omega) fun m' s2 hJ2 a b d e => q m' s2 hJ2 (by omega) b (fun j x y => ?_) e
      by_cases z : j = m
      · rw [z]; exact c
      · exact d j (by omega) y
theorem go_desc (A : Told cmp key J n) {p : Array Nat} (hp : Pm n p) (n0 : 0 < n) (inj : ∀ i j, i < n → j < n → key i = key j → i = j) {Q : Array Nat × Nat × Nat → Shared → Prop} : ∀ (f m : Nat) (s : Shared), J s → 2 ≤ m → m + f = n →
    (∀ j, 1 ≤ j → j < m → key (p.getD j 0) < key (p.getD (j - 1) 0)) →
    (∀ m' s', J s' → m ≤ m' → m' ≤ n → (∀ j, 1 ≤ j → j < m' → key (p.getD j 0) < key (p.getD (j - 1) 0)) → Q (p, m', 0) s') → (kas_desc f p m 0).kasWp cmp Q s
  | 0, m, s, hJ, h1, hf, dn, q => q m s hJ (Nat.le_refl _) (by omega) dn
  | f + 1, m, s, hJ, h1, hf, dn, q => by
    refine A _ _ _ s (hp.lt n0 _) (hp.lt n0 _) hJ fun s' hJ' => ?_
    by_cases c : key (p.getD m 0) < key (p.getD (m - 1) 0)
    · rw [decide_eq_true c]
      dsimp only
      rw [if_pos rfl, if_neg (by decide)]
      refine go_desc A hp n0 inj f (m + 1) s' hJ' (by omega) (by omega) (fun j x y => ?_) fun m' s2 hJ2 a b d => q m' s2 hJ2 (by omega) b d
      by_cases z : j = m
      · rw [z]; exact c
      · exact dn j x (by omega)
    · rw [decide_eq_false c]
      dsimp only
      rw [if_neg Bool.false_ne_true]
      refine A _ _ _ s' (hp.lt n0 _) (hp.lt n0 _) hJ' fun s2 hJ2 => ?_
      have ne : key (p.getD m 0) ≠ key (p.getD (m - 1) 0) := fun e => by
        have := hp.inj (by omega) (by omega) (inj _ _ (hp.lt n0 _) (hp.lt n0 _) e)
        omega
      rw [decide_eq_true (by omega : key (p.getD (m - 1) 0) < key (p.getD m 0))]
      dsimp only
      rw [if_pos rfl]
      exact q m s2 hJ2 (Nat.le_refl _) (by omega) dn
theorem up_of_not {p : Array Nat} (hp : Pm n p) (n0 : 0 < n) (inj : ∀ i j, i < n → j < n → key i = key j → i = j) {k : Nat} (hk : k ≤ n) (h : ∀ j, 1 ≤ j → j < k → ¬ key (p.getD j 0) < key (p.getD (j - 1) 0)) : Up key p k := fun j h1 h2 => by
  have ne : key (p.getD j 0) ≠ key (p.getD (j - 1) 0) := fun e => by
    have := hp.inj (by omega) (by omega) (inj _ _ (hp.lt n0 _) (hp.lt n0 _) e)
    omega
  have := h j h1 h2
  omega
theorem go_tail (A : Told cmp key J n) {p : Array Nat} (hp : Pm n p) (n0 : 0 < n) (inj : ∀ i j, i < n → j < n → key i = key j → i = j) {m : Nat} (m1 : 1 ≤ m) (mn : m ≤ n) (hJ : J s) (dn : ∀ j, 1 ≤ j → j < m → key (p.getD j 0) < key (p.getD (j - 1) 0)) {Q : Nat × Array Nat → Shared → Prop}
    (q : ∀ k p' s', J s' → Pm n p' → 1 ≤ k → k ≤ n → Up key p' k → Q (k, p') s') : (kas_tail3 m n p).kasWp cmp Q s := by
  have hp' : Pm n (kas_rev p 0 m) := hp.of (mirror_perm _ _ _ _)
  have at_ : ∀ k, k < m → (kas_rev p 0 m).getD k 0 = p.getD (m - 1 - k) 0 := fun k hk => getD_of? (by
    unfold kas_rev
    rw [getElem?_mirror_all (by rw [hp.size]; exact mn), if_pos ⟨Nat.zero_le _, hk⟩]
    congr 1
    omega)
  unfold kas_tail3
  rw [KasT.kasWp_bind]
  refine go_asc A hp' n0 (n - m) m s hJ m1 (by omega) fun k s' hJ' a b d e => q k _ s' hJ' hp' (by omega) b ?_
  intro j h1 h2
  by_cases c : j < m
  · rw [at_ j c, at_ (j - 1) (by omega)]
    have := dn (m - 1 - (j - 1)) (by omega) (by omega)
    rwa [show m - 1 - (j - 1) - 1 = m - 1 - j by omega] at this
  · have ne : key ((kas_rev p 0 m).getD j 0) ≠ key ((kas_rev p 0 m).getD (j - 1) 0) := fun e => by
      have := hp'.inj (by omega) (by omega) (inj _ _ (hp'.lt n0 _) (hp'.lt n0 _) e)
      omega
    have := d j (by omega) h2
    omega
theorem go_count (A : Told cmp key J n) {p : Array Nat} (hp : Pm n p) (n2 : 2 ≤ n) (inj : ∀ i j, i < n → j < n → key i = key j → i = j) (hJ : J s) {Q : Nat × Array Nat → Shared → Prop}
    (q : ∀ k p' s', J s' → Pm n p' → 1 ≤ k → k ≤ n → Up key p' k → Q (k, p') s') : (kas_count n p).kasWp cmp Q s := by
  have n0 : 0 < n := by omega
  unfold kas_count
  rw [KasT.kasWp_bind]
  refine go_asc A hp n0 (n - 1) 1 s hJ (Nat.le_refl _) (by omega) fun m s' hJ' a b d e => ?_
  have up : Up key p m := up_of_not hp n0 inj b d
  by_cases c : m = n
  · rw [if_pos (by rw [c]; exact beq_self_eq_true n)]
    exact q m p s' hJ' hp a b up
  rw [if_neg (by simpa using c)]
  by_cases c1 : m > 1
  · rw [if_pos c1]
    refine A _ _ _ s' (hp.lt n0 _) (hp.lt n0 _) hJ' fun s2 hJ2 => ?_
    rw [decide_eq_true (up.lt' (show 0 < m - 1 by omega) (by omega))]
    dsimp only
    rw [if_pos rfl]
    exact q m p s2 hJ2 hp a b up
  · rw [if_neg c1]
    have em : m = 1 := by omega
    subst em
    unfold kas_descPart
    rw [KasT.kasWp_bind]
    refine go_desc A hp n0 inj (n - (1 + 1)) (1 + 1) s' hJ' (by omega) (by omega) (fun j x y => ?_) fun m' s2 hJ2 x y z => ?_
    · have ej : j = 1 := by omega
      subst ej
      exact e (by omega)
    · dsimp only
      rw [if_neg (by decide)]
      exact go_tail A hp n0 inj (by omega) y hJ2 z q
theorem go_place (A : Told cmp key J n) {p : Array Nat} (hp : Pm n p) (n0 : 0 < n) {k : Nat} (kn : k < n) (up : Up key p k) {Q : Nat → Shared → Prop} : ∀ (f l r : Nat) (s : Shared), J s → r - l ≤ f → l ≤ r → r ≤ k →
    (∀ j, j < l → ¬ key (p.getD k 0) < key (p.getD j 0)) → (∀ j, r ≤ j → j < k → key (p.getD k 0) < key (p.getD j 0)) →
    (∀ l' s', J s' → l' ≤ k → (∀ j, j < l' → ¬ key (p.getD k 0) < key (p.getD j 0)) → (∀ j, l' ≤ j → j < k → key (p.getD k 0) < key (p.getD j 0)) → Q l' s') → (kas_place p k f l r).kasWp cmp Q s
  | 0, l, r, s, hJ, h1, h2, h3, lo, hi, q => q l s hJ (by omega) lo (by rw [show l = r by omega]; exact hi)
  | f + 1, l, r, s, hJ, h1, h2, h3, lo, hi, q => by
    show KasT.kasWp cmp (if l ≥ r then .ret l else _) Q s
    by_cases c : l ≥ r
    · rw [if_pos c]
      exact q l s hJ (by omega) lo (by rw [show l = r by omega]; exact hi)
    rw [if_neg c]
    refine A _ _ _ s (hp.lt n0 _) (hp.lt n0 _) hJ fun s' hJ' => ?_
    by_cases d : key (p.getD k 0) < key (p.getD ((l + r) / 2) 0)
    · rw [decide_eq_true d]
      dsimp only
      rw [if_pos rfl]
      refine go_place A hp n0 kn up f l ((l + r) / 2) s' hJ' (by omega) (by omega) (by omega) lo (fun j x y => ?_) q
      by_cases z : j = (l + r) / 2
      · rw [z]; exact d
      · exact Int.lt_trans d (up.lt' (by omega) y)
    · rw [decide_eq_false d]
      dsimp only
      rw [if_neg Bool.false_ne_true]
      refine go_place A hp n0 kn up f ((l + r) / 2 + 1) r s' hJ' (by omega) (by omega) (by omega) (fun j x => ?_) hi q
      by_cases z : j = (l + r) / 2
      · rw [z]; exact d
      · have := up.lt' (i := j) (j := (l + r) / 2) (by omega) (by omega)
        omega
theorem go_bin (A : Told cmp key J n) (n0 : 0 < n) (inj : ∀ i j, i < n → j < n → key i = key j → i = j) {Q : Array Nat → Shared → Prop} : ∀ (f : Nat) (p : Array Nat) (k : Nat) (s : Shared), J s → Pm n p → k + f = n → Up key p k →
    (∀ p' s', J s' → Pm n p' → Up key p' n → Q p' s') → (kas_bin f p k).kasWp cmp Q s
  | 0, p, k, s, hJ, hp, hf, up, q => q p s hJ hp (by rw [← hf]; exact up)
  | f + 1, p, k, s, hJ, hp, hf, up, q => by
    have kn : k < n := by omega
    show KasT.kasWp cmp ((kas_place p k k 0 k).bind fun l => kas_bin f (bubble p k (k - l)) (k + 1)) Q s
    rw [KasT.kasWp_bind]
    refine go_place A hp n0 kn up k 0 k s hJ (by omega) (Nat.zero_le _) (Nat.le_refl _) (fun j z => by omega) (fun j x y => by omega) fun l s' hJ' lk lo hi => ?_
    have at_ : ∀ j, (bubble p k (k - l)).getD j 0 = if j = l then p.getD k 0 else if l < j ∧ j ≤ k then p.getD (j - 1) 0 else p.getD j 0 := fun j => by
      have g := getElem?_bubble (xs := p) (src := k) (by rw [hp.size]; exact kn) (k - l) (by omega) j
      rw [show k - (k - l) = l by omega] at g
      split
      · rename_i c; rw [if_pos c] at g; exact getD_of? g
      · rename_i c
        rw [if_neg c] at g
        split
        · rename_i d; rw [if_pos d] at g; exact getD_of? g
        · rename_i d; rw [if_neg d] at g; exact getD_of? g
    refine go_bin A n0 inj f _ (k + 1) s' hJ' (hp.of (bubble_perm _ _ _)) (by omega) (fun j h1 h2 => ?_) q
    rw [at_, at_]
    by_cases c1 : j = l
    · subst c1
      rw [if_neg (by omega), if_neg (by omega), if_pos rfl]
      have := lo (j - 1) (by omega)
      have ne : key (p.getD k 0) ≠ key (p.getD (j - 1) 0) := fun e => by
        have := hp.inj (by omega) (by omega) (inj _ _ (hp.lt n0 _) (hp.lt n0 _) e)
        omega
      omega
    · rw [if_neg c1]
      by_cases c2 : l < j
      · rw [if_pos (show l < j ∧ j ≤ k by omega)]
        by_cases c3 : j - 1 = l
        · rw [if_pos c3]
          exact hi (j - 1) (by omega) (by omega)
        · rw [if_neg c3, if_pos (show l < j - 1 ∧ j - 1 ≤ k by omega)]
          exact up (j - 1) (by omega) (by omega)
      · rw [if_neg (show ¬(l < j ∧ j ≤ k) by omega), if_neg (by omega), if_neg (by omega)]
        exact up j h1 (by omega)
theorem go_sort (A : Told cmp key J n) (n2 : 2 ≤ n) (inj : ∀ i j, i < n → j < n → key i = key j → i = j) (hJ : J s) {Q : Array Nat → Shared → Prop} (q : ∀ p s', J s' → Pm n p → Up key p n → Q p s') : (kas_sort n).kasWp cmp Q s := by
  unfold kas_sort
  rw [KasT.kasWp_bind]
  refine go_count A ⟨by simp⟩ n2 inj hJ fun k p s' hJ' hp k1 kn up => ?_
  dsimp only
  by_cases c : k < n
  · rw [if_pos c, show max k 1 = k by omega]
    exact go_bin A (by omega) inj (n - k) p k s' hJ' hp (by omega) up q
  · rw [if_neg c]
    exact q p s' hJ' hp (by rw [show n = k by omega]; exact up)
end
end L2
end
section
/-! COMPREHENSIONS over the hand layer: the block as a context of its own. -/
namespace L2
open PySem PySem.Spec PyProof.Rows
set_option maxHeartbeats 4000000
set_option Elab.async false
set_option linter.unusedVariables false

/-! ### the names of a block -/
theorem relab_free {env : Env} : ∀ {ns : List (Str × NameKind)} {x : Str}, ns.lookup x = some .free →
    (ns.map fun (n, k) => if (k == NameKind.free && env.scope.kind == .function && env.kindOf n == some .cell) then (n, NameKind.cell) else (n, k)).lookup x = some .cell ∨
    (ns.map fun (n, k) => if (k == NameKind.free && env.scope.kind == .function && env.kindOf n == some .cell) then (n, NameKind.cell) else (n, k)).lookup x = some .free
  | [], _, h => by simp at h
  | (n, k) :: r, x, h => by
    rw [List.map_cons]
    by_cases e : (x == n) = true
    · rw [List.lookup_cons, e] at h
      have hk : k = .free := by simpa using h
      subst hk
      by_cases q : (NameKind.free == NameKind.free && env.scope.kind == .function && env.kindOf n == some .cell) = true
      · left; dsimp only; rw [if_pos q, List.lookup_cons, e]
      · right; dsimp only; rw [if_neg q, List.lookup_cons, e]
    · have e' : (x == n) = false := by simpa using e
      rw [List.lookup_cons, e'] at h
      have ih := relab_free (env := env) h
      dsimp only
      split <;> (rw [List.lookup_cons, e']; exact ih)
theorem relab_back {env : Env} : ∀ {ns : List (Str × NameKind)} {x : Str} {k : NameKind}, (∀ y ∈ ns, y.2 ≠ .cell) → (k = .cell ∨ k = .free) →
    (ns.map fun (n, k) => if (k == NameKind.free && env.scope.kind == .function && env.kindOf n == some .cell) then (n, NameKind.cell) else (n, k)).lookup x = some k → (x, NameKind.free) ∈ ns
  | [], _, _, _, _, h => by simp at h
  | (n, k') :: r, x, k, nc, hk, h => by
    rw [List.map_cons] at h
    have ih := relab_back (env := env) (ns := r) (x := x) (k := k) (fun y hy => nc y (List.mem_cons_of_mem _ hy)) hk
    by_cases e : (x == n) = true
    · have ex : x = n := by simpa using e
      subst ex
      by_cases q : (k' == NameKind.free && env.scope.kind == .function && env.kindOf x == some .cell) = true
      · have : k' = .free := by
          cases k' <;> first | rfl | (simp at q)
        subst this
        exact List.mem_cons_self
      · dsimp only at h
        rw [if_neg q, List.lookup_cons, e] at h
        have : k' = k := by simpa using h
        subst this
        rcases hk with z | z
        · exact absurd z (nc (x, k') List.mem_cons_self)
        · subst z; exact List.mem_cons_self
    · have e' : (x == n) = false := by simpa using e
      refine List.mem_cons_of_mem _ (ih ?_)
      dsimp only at h
      split at h <;> (rw [List.lookup_cons, e'] at h; exact h)

/-! ### what a block closes over -/
theorem clos_step {env : Env} : ∀ (ns : List (Str × NameKind)) (acc : List (Str × Addr)), (∀ y ∈ ns, y.2 = .free → ∃ c, env.cells.lookup y.1 = some c) →
    (∀ x c, acc.lookup x = some c → env.cells.lookup x = some c) →
    ∃ cl : List (Str × Addr), (forIn ns acc fun x r => (match x with | (name, kind) => if (kind == NameKind.free) = true then do let c ← cellOf env name; pure (ForInStep.yield ((name, c) :: r)) else pure (ForInStep.yield r) : Sem (ForInStep (List (Str × Addr)))) : Sem (List (Str × Addr))) = pure cl ∧
      (∀ x c, cl.lookup x = some c → env.cells.lookup x = some c) ∧ (∀ x, (x, NameKind.free) ∈ ns → ∃ c, cl.lookup x = some c) ∧ ∀ x c, acc.lookup x = some c → ∃ c', cl.lookup x = some c'
  | [], acc, _, hacc => ⟨acc, rfl, hacc, fun _ h => absurd h (by simp), fun x c h => ⟨c, h⟩⟩
  | (n, k) :: r, acc, hfr, hacc => by
    by_cases q : (k == NameKind.free) = true
    · have hk : k = .free := by cases k <;> first | rfl | (simp at q)
      subst hk
      obtain ⟨c, hc⟩ := hfr (n, .free) List.mem_cons_self rfl
      have hof : cellOf env n = pure c := by unfold cellOf; rw [hc]
      obtain ⟨cl, h1, h2, h3, h4⟩ := clos_step (env := env) r ((n, c) :: acc) (fun y hy => hfr y (List.mem_cons_of_mem _ hy)) (fun x c' h => by
        by_cases e : (x == n) = true
        · have ex : x = n := by simpa using e
          subst ex
          rw [List.lookup_cons, e] at h
          have : c = c' := by simpa using h
          rw [← this]; exact hc
        · have e' : (x == n) = false := by simpa using e
          rw [List.lookup_cons, e'] at h
          exact hacc x c' h)
      refine ⟨cl, ?_, h2, fun x hx => ?_, fun x c' h => ?_⟩
      · rw [List.forIn_cons]
        dsimp only
        rw [if_pos q, hof]
        exact h1
      · rcases List.mem_cons.mp hx with e | e
        · cases e
          exact h4 n c (by simp)
        · exact h3 x e
      · by_cases e : (x == n) = true
        · have ex : x = n := by simpa using e
          subst ex
          exact h4 x c (by simp)
        · have e' : (x == n) = false := by simpa using e
          exact h4 x c' (by rw [List.lookup_cons, e']; exact h)
    · obtain ⟨cl, h1, h2, h3, h4⟩ := clos_step (env := env) r acc (fun y hy => hfr y (List.mem_cons_of_mem _ hy)) hacc
      refine ⟨cl, ?_, h2, fun x hx => ?_, h4⟩
      · rw [List.forIn_cons]
        dsimp only
        rw [if_neg q]
        exact h1
      · rcases List.mem_cons.mp hx with e | e
        · cases e
          exact absurd rfl q
        · exact h3 x e
theorem clos_of {env : Env} {scope : Scope} (hfr : ∀ y ∈ scope.names, y.2 = .free → ∃ c, env.cells.lookup y.1 = some c) :
    ∃ cl : List (Str × Addr), closureFor scope env = pure cl ∧ (∀ x c, cl.lookup x = some c → env.cells.lookup x = some c) ∧ ∀ x, (x, NameKind.free) ∈ scope.names → ∃ c, cl.lookup x = some c := by
  obtain ⟨cl, h1, h2, h3, _⟩ := clos_step (env := env) scope.names [] hfr (fun x c h => by simp at h)
  refine ⟨cl, ?_, h2, h3⟩
  unfold closureFor
  dsimp only
  rw [h1]
  rfl

/-! ### the block -/
/-- the outer names' values, behind nt targets -/
noncomputable def inner (nt : Nat) (js : List Nat) (σ : St) : St := List.replicate nt none ++ js.map fun j => (σ[j]?).join
/-- the context of the block -/
noncomputable def blk (X : Cx) (N : List Str) (scope : Scope) (cl : List (Str × Addr)) (C : Addr) (s : Shared) (H : Hp) (fp : List Addr) : Cx :=
  { X with N := N, s₀ := s, H₀ := H, env := compEnvC scope cl C X.env, outer := X.stack, ex := fp, fn := fun _ => false, pn := [], xe := fun _ _ => False }
/-- what a block asks of the two scopes: sc the outer one, N0 the outer names -/
structure Blk (sc : Scope) (N0 : List Str) (N : List Str) (nt : Nat) (js : List Nat) (scope : Scope) : Prop where
  kind : scope.kind = .function
  loc : ∀ y ∈ scope.names, y.2 = .local → scope.names.lookup y.1 = some .local
  nocell : ∀ y ∈ scope.names, y.2 ≠ .cell
  cap : ∀ y ∈ scope.names, y.2 = .free → sc.names.lookup y.1 = some .cell ∨ sc.names.lookup y.1 = some .free
  len : N.length = nt + js.length
  out : N.drop nt = js.map fun j => N0.getD j ""
  js : ∀ j ∈ js, j < N0.length
  fr : ∀ x ∈ N.drop nt, scope.names.lookup x = some .free
  nd : N.Nodup

theorem inner_get {nt : Nat} {js : List Nat} {σ : St} {i : Nat} {v : V} (h : (inner nt js σ)[i]? = some (some v)) : ∃ k j, i = nt + k ∧ js[k]? = some j ∧ σ[j]? = some (some v) := by
  unfold inner at h
  by_cases hi : i < nt
  · rw [List.getElem?_append_left (by simpa using hi), List.getElem?_replicate, if_pos hi] at h
    cases h
  · rw [List.getElem?_append_right (by simpa using hi), List.length_replicate, List.getElem?_map] at h
    cases e : js[i - nt]? with
    | none => rw [e] at h; cases h
    | some j =>
      rw [e] at h
      refine ⟨i - nt, j, by omega, e, ?_⟩
      have h' : (σ[j]?).join = some v := by simpa using h
      cases e2 : σ[j]? with
      | none => rw [e2] at h'; cases h'
      | some o => rw [e2] at h'; cases o with
        | none => cases h'
        | some w => have : w = v := by simpa using h'
                    rw [this]

section
variable {X : Cx} {pins : List (Addr × Obj)} {σ : St} {H : Hp} {s : Shared} {N : List Str} {nt : Nat} {js : List Nat} {scope : Scope} {cl : List (Str × Addr)} {fp : List Addr}
theorem blk_start {h' : Heap} {tk : Nat} (I : Inv X pins σ H s) (B : Blk X.env.scope X.N N nt js scope)
    (c1 : ∀ x c, cl.lookup x = some c → X.env.cells.lookup x = some c) (c2 : ∀ x, (x, NameKind.free) ∈ scope.names → ∃ c, cl.lookup x = some c)
    (hf : ∀ b ∈ fp, FpOk X pins H b) (hlt : ∀ b ∈ fp, b < s.heap.objs.size)
    (kp : ∀ b o, s.heap.get? b = some o → h'.get? b = some o) (hC : h'.Ns (s.heap.objs.size + 1) fun _ => none)
    (hD : h'.get? s.heap.objs.size = some { cls := .type "list", data := .seq ([] : List Value).toArray 0 }) :
    Inv (blk X N scope cl (s.heap.objs.size + 1) s H fp) [] (inner nt js σ) (upd H s.heap.objs.size (.lst [])) { s with heap := h', toks := tk } := by
  have hfr : ∀ a, s.heap.objs.size ≤ a → H a = none := fun a ha => I.hok.fresh ha
  have cold : ∀ x c, X.env.cells.lookup x = some c → c < s.heap.objs.size := fun x c e => by
    obtain ⟨v, q⟩ := I.cell x c e
    exact q.lt
  refine ⟨⟨I.ok.mod, B.kind, I.ok.glob, I.ok.blt, Nat.le_succ _, fun x y c a b => I.ok.inj x y c (c1 x c a) (c1 y c b), fun x hx => ?_, fun x c z _ => absurd z Bool.false_ne_true, I.ok.hd, I.ok.frames, .inl rfl, fun b hb => ?_, I.bs, Nat.le_trans I.ok.bsz I.sz, fun b o e hb => ?_, fun b hb z => ?_, I.stack, I.stkFree⟩,
    rfl, I.bare, Un.laid kp (Nat.le_refl _) (hfr _ (Nat.le_refl _)), ⟨_, hC, fun i x v h1 h2 h3 => ?_⟩, fun x c e => ?_, ?_, fun x c e => ?_, fun p hp => absurd (show p ∈ ([] : List (Addr × Obj)) from hp) (by simp), I.hok.laid kp (Nat.le_refl _) ⟨Nat.zero_le _, [], 0, .nil, hD⟩, ?_⟩
  · have : (x, NameKind.free) ∈ scope.names := hx.elim (fun z => relab_back B.nocell (.inl rfl) z) fun z => relab_back B.nocell (.inr rfl) z
    exact c2 x this
  · refine ⟨Nat.ne_of_lt (Nat.lt_succ_of_lt (hlt b hb)), fun x c e => (hf b hb).2.2.2.2.1 x c (c1 x c e)⟩
  · rcases (hf b hb).2.2.2.1 with z | z
    · exact I.ok.noex b o e z
    · exact absurd (Nat.lt_of_lt_of_le (Heap.lt_size (I.ok.bs b o e).1) z) (Nat.lt_irrefl _)
  · rcases List.mem_cons.mp (I.stkSub b z) with q | q
    · exact (hf b hb).2.1 q
    · exact (hf b hb).2.2.1 q
  · obtain ⟨k, j, rfl, hk, hv⟩ := inner_get h2
    have hkl : k < js.length := (List.getElem?_eq_some_iff.mp hk).1
    have h1' : (N.drop nt)[k]? = some x := by rw [List.getElem?_drop]; exact h1
    have hxm : x ∈ N.drop nt := List.mem_of_getElem? h1'
    have hfree : scope.names.lookup x = some .free := B.fr x hxm
    have hj : X.N[j]? = some x := by
      rw [B.out, List.getElem?_map, hk] at h1'
      have hjl : j < X.N.length := B.js j (List.mem_of_getElem? hk)
      rw [List.getElem?_eq_getElem hjl]
      have e : X.N.getD j "" = x := by simpa using h1'
      rw [← e]
      simp [List.getD_eq_getElem?_getD, List.getElem?_eq_getElem hjl]
    have hcap := B.cap _ (PySem.mem_of_lookup hfree) rfl
    obtain ⟨m, hn, hl⟩ := I.loc
    obtain ⟨u, ru, lk⟩ := hl j x v hj hv (hcap.elim (fun z => .inr (.inl z)) fun z => .inr (.inr z))
    refine ⟨u, ru, .inr ⟨relab_free hfree, ?_⟩⟩
    rcases lk with ⟨z, _⟩ | ⟨_, c, e, q⟩
    · exact absurd (show X.env.scope.names.lookup x = some .local from z) (by rcases hcap with y | y <;> (rw [y]; decide))
    · obtain ⟨c', e'⟩ := c2 x (PySem.mem_of_lookup hfree)
      have ec := c1 x c' e'
      rw [e] at ec
      cases ec
      obtain ⟨o, ho, hd⟩ := q
      exact ⟨c, e', o, kp c o ho, hd⟩
  · obtain ⟨v, o, ho, hd⟩ := I.cell x c (c1 x c e)
    exact ⟨v, o, kp c o ho, hd⟩
  · show upd H _ _ (s.heap.objs.size + 1) = none
    rw [upd_ne (Nat.ne_of_gt (Nat.lt_succ_self _))]
    exact hfr _ (Nat.le_succ _)
  · show upd H _ _ c = none
    rw [upd_ne (Nat.ne_of_lt (cold x c (c1 x c e)))]
    exact I.freeC x c (c1 x c e)
  · show (inner nt js σ).length = N.length
    unfold inner
    rw [List.length_append, List.length_replicate, List.length_map, B.len]
end

/-! ### the tests of a clause -/
noncomputable def PTs (X : Cx) (ifs : List Expr) (t : TT) : Prop :=
  ∀ (pins : List (Addr × Obj)) (s : Shared) (σ : St) (H : Hp) (Q : Bool → Hp → Prop), Inv X pins σ H s → t σ H Q →
    wpAny (model X.prog X.w) X.A (forIn ifs true fun c r => if r = true then do let ok ← isTrue c X.env (eval c X.env); pure (ForInStep.yield ok) else pure (ForInStep.yield r)) (TP X pins σ Q) X.xe s
noncomputable def tYes : TT := fun _ H Q => Q true H
theorem pts_nil {X : Cx} : PTs X [] tYes := fun _ _ _ H _ I h => wpAny_tests_nil ⟨H, I, h⟩
theorem pts_one {X : Cx} {c : Expr} {t : TT} (h : PT X c t) : PTs X [c] t := fun pins s σ H Q I q => wpAny_tests_one (h pins s σ H Q I q)

/-! ### the loop -/
section
variable {prog : Program} {w : World} {A : Around} {s : Shared} {R : Result → Shared → Prop}
theorem comp_turns {elt tg iter : Expr} {ifs : List Expr} {scope : Scope} {pos : Pos} {it acc : Value} {env : Env} (J : Nat → Shared → Prop)
    (turn : ∀ n s, J n s → wpAny (model prog w) A (pyNext it) (fun r s1 => match r with
      | none => R (.ok .next) s1
      | some v => wpAny (model prog w) A (letOwnedTupleGo tg it v) (fun _ s2 => wpAny (model prog w) A (assign tg env v) (fun _ s3 =>
          wpAny (model prog w) A (forIn ifs true fun c r => if r = true then do let ok ← isTrue c env (eval c env); pure (ForInStep.yield ok) else pure (ForInStep.yield r)) (fun ok s4 =>
            if ok = true then wpAny (model prog w) A (eval elt env) (fun x s5 => wpAny (model prog w) A (call (.builtin "list.append") [acc, x]) (fun _ s6 => ∃ m, m < n ∧ J m s6) (fun _ _ => False) s5) (fun _ _ => False) s4
            else ∃ m, m < n ∧ J m s4) (fun _ _ => False) s3) (fun _ _ => False) s2) (fun _ _ => False) s1) (fun _ _ => False) s)
    (n : Nat) (h : J n s) : codeAny (model prog w) A (.compLoop (.ListComp elt [⟨tg, iter, ifs, 0⟩] scope pos) 0 it acc env) R s := by
  refine codeAny_loop rfl J (fun k s' hJ => ?_) n h
  show wpAny _ A ((compTurn (.ListComp elt [⟨tg, iter, ifs, 0⟩] scope pos) 0 it acc env).onRaise (fun x => do noteFrame x env; theTreesLotGoes x)) _ _ s'
  refine wpAny_noted ?_
  rw [compTurn_list]
  refine wpAny_bind (wpAny_standAt (wpAny_bind (wpAny_mono (turn k s' hJ) (fun r s1 q1 => ?_) fun _ _ z => z.elim)))
  cases r with
  | none => exact wpAny_pure q1
  | some v =>
    refine wpAny_bind (wpAny_mono q1 (fun _ s2 q2 => wpAny_bind (wpAny_mono q2 (fun _ s3 q3 => wpAny_bind (wpAny_mono q3 (fun ok s4 q4 => ?_) fun _ _ z => z.elim)) fun _ _ z => z.elim)) fun _ _ z => z.elim)
    cases ok with
    | false => exact wpAny_pure ⟨rfl, q4⟩
    | true => exact wpAny_bind (wpAny_bind (wpAny_mono q4 (fun x s5 q5 => wpAny_bind (wpAny_mono q5 (fun _ s6 q6 => wpAny_pure (wpAny_pure ⟨rfl, q6⟩)) fun _ _ z => z.elim)) fun _ _ z => z.elim))
end

/-! ### THE RULE -/
/-- W: the invariant by the turn and a measure; D: the new list -/
noncomputable def cmpW (J : It) (g : TG) (tt : TT) (te : TE) (Q : VK) (D : Addr) (σ0 : St) (H1 : Hp) : Prop := ∃ W : Nat → Nat → St → Hp → Prop, (∃ m, W 0 m σ0 (upd H1 D (.lst []))) ∧
  ∀ i m σ' H', W i m σ' H' → (J.stop i H' ∧ Q (.ref D) H') ∨ (J.go i H' ∧ ∀ x H2, J.yld i H' x H2 → g x σ' H2 fun σ3 H3 => tt σ3 H3 fun ok H4 =>
    if ok = true then te σ3 H4 fun y H5 => ∃ ys, H5 D = some (.lst ys) ∧ ys.length < sizeLine ∧ ∃ m', m' < m ∧ W (i + 1) m' σ3 (upd H5 D (.lst (ys ++ [y]))) else ∃ m', m' < m ∧ W (i + 1) m' σ3 H4)
noncomputable def tComp (nt : Nat) (js : List Nat) (wi : TI) (g : TG) (tt : TT) (te : TE) : TE := fun σ H Q => wi σ H fun J H1 => ∀ D, H1 D = none → cmpW J g tt te Q D (inner nt js σ) H1
theorem pe_comp {X : Cx} {elt tg iter : Expr} {ifs : List Expr} {scope : Scope} {pos : Pos} {N : List Str} {nt : Nat} {js : List Nat} {sc : Scope} {N0 : List Str} {wi : TI} {g : TG} {tt : TT} {te : TE}
    (hc : X.calm = true) (hsc : X.env.scope = sc) (hN : X.N = N0) (B : Blk sc N0 N nt js scope) (hi : PI X tg iter wi)
    (hg : ∀ cl C s H fp, PG (blk X N scope cl C s H fp) tg g) (ht : ∀ cl C s H fp, PTs (blk X N scope cl C s H fp) ifs tt) (he : ∀ cl C s H fp, PE (blk X N scope cl C s H fp) elt te)
    (hs : ∀ x, foldedSetIterable iter X.env x = pure x := by intro _; rfl) : PE X (.ListComp elt [⟨tg, iter, ifs, 0⟩] scope pos) (tComp nt js wi g tt te) := by
  subst hsc hN
  intro pins s σ H Q I h
  obtain ⟨cl, hcl, c1, c2⟩ := clos_of (env := X.env) (scope := scope) fun y hy hk => I.ok.has y.1 (B.cap y hy hk)
  rw [eval_ListComp]
  refine wpAny_comprehension_free (use := none) rfl hs hcl B.kind B.loc (thn (hi pins s σ H _ I h) fun v s1 q1 => thn q1 fun itv s2 q2 => ?_)
  obtain ⟨it, fp, tn, J, H2, e, I2, T, st2, f2, q2⟩ := q2
  subst e
  obtain ⟨W, ⟨m0, w0⟩, turn⟩ := q2 s2.heap.objs.size (I2.hok.fresh (Nat.le_refl _))
  have hlt : ∀ b ∈ fp, b < s2.heap.objs.size := fun b hb => by
    obtain ⟨o, eo, _⟩ := T.obj _ _ st2 b hb
    exact Heap.lt_size eo
  refine wpAny_newObj_type (wpAny_newFunctionEnv B.nocell (by intro y hy; simp at hy) (fun h1 hns hsb => ?_) B.kind)
  dsimp only at hns hsb ⊢
  have hsz : (s2.heap.push { cls := .type "list", dict := none, data := .seq ([] : List Value).toArray }).objs.size = s2.heap.objs.size + 1 := by rw [Heap.size_push]
  have old : ∀ b o, s2.heap.get? b = some o → h1.get? b = some o := fun b o eb => hsb.extBut b o (by rw [hsz]; exact Nat.ne_of_lt (Nat.lt_succ_of_lt (Heap.lt_size eb))) (Heap.get?_push_of_some _ (Heap.get?_push_of_some _ eb))
  have hD : h1.get? s2.heap.objs.size = some { cls := .type "list", data := .seq ([] : List Value).toArray 0 } := hsb.extBut _ _ (by rw [hsz]; exact Nat.ne_of_lt (Nat.lt_succ_self _)) (Heap.get?_push_of_some _ (Heap.get?_push_size _ rfl))
  rw [hsz] at hns
  have I3 := blk_start (cl := cl) (fp := fp) (tk := s2.toks + ([] : List (Str × Value)).length) I2 B c1 c2 f2 hlt old (show h1.Ns (s2.heap.objs.size + 1) fun _ => none from hns) hD
  have stat : ∀ {H' : Hp}, (∀ b ∈ fp, H' b = none) → ∀ b ∈ fp, FpOk (blk X N scope cl (s2.heap.objs.size + 1) s2 H2 fp) [] H' b := fun {H'} hn b hb =>
    ⟨hn b hb, Nat.ne_of_lt (Nat.lt_succ_of_lt (hlt b hb)), fun z => (List.mem_cons.mp (I2.stkSub b z)).elim (f2 b hb).2.1 (f2 b hb).2.2.1, .inl hb, fun x c ec => (f2 b hb).2.2.2.2.1 x c (c1 x c ec), fun p hp => absurd (show p ∈ ([] : List (Addr × Obj)) from hp) (by simp)⟩
  have fin : ∀ {i : Nat} {σ' : St} {H' : Hp} {s' : Shared}, Inv (blk X N scope cl (s2.heap.objs.size + 1) s2 H2 fp) [] σ' H' s' → Q (.ref s2.heap.objs.size) H' →
      compPost (model X.prog X.w) X.A X.xe none (EP X pins σ Q) (.ref s2.heap.objs.size) (s2.heap.objs.size + 1) (.ok .next) s' := fun {i σ' H' s'} Ib q => by
    obtain ⟨m, hn, _⟩ := id Ib.loc
    refine ⟨m, hn, fun h'' hs'' => ?_⟩
    have I4 : Inv X pins σ H' s' := I2.call' Ib.os Ib.base Ib.hok Ib.bare fun b hb => ⟨(f2 b hb).2.2.2.1, (f2 b hb).2.1, (f2 b hb).2.2.2.2.1, (f2 b hb).2.2.2.2.2⟩
    obtain ⟨g0, g1, g2, g3, g4, g5⟩ := I2.fpOk (H' := H') (Nat.le_succ _) Ib.free
    exact ⟨.ref s2.heap.objs.size, H', I4.turned (t' := s'.toks) (fun b o hb eb => hs''.extBut b o hb eb) g0 g1 g3 g4 g5, rfl, q⟩
  have loop : codeAny (model X.prog X.w) X.A (.compLoop (.ListComp elt [⟨tg, iter, ifs, 0⟩] scope pos) 0 (.ref it) (.ref s2.heap.objs.size) (compEnvC scope cl (s2.heap.objs.size + 1) X.env))
      (compPost (model X.prog X.w) X.A X.xe none (EP X pins σ Q) (.ref s2.heap.objs.size) (s2.heap.objs.size + 1)) { s2 with heap := h1, toks := s2.toks + ([] : List (Str × Value)).length } := by
    refine comp_turns (fun n s' => ∃ i σ' H', Inv (blk X N scope cl (s2.heap.objs.size + 1) s2 H2 fp) [] σ' H' s' ∧ tn i s'.heap ∧ (∀ b ∈ fp, H' b = none) ∧ W i n σ' H') ?_ m0
      ⟨0, _, _, I3, T.keep _ _ _ st2 fun b _ o eb => old b o eb, fun b hb => ?_, w0⟩
    · rintro n s3 ⟨i, σ3, H3, J3, st3, fr3, w3⟩
      rcases turn i n σ3 H3 w3 with ⟨stop, qn⟩ | ⟨go, step⟩
      · refine thn (T.done (blk X N scope cl (s2.heap.objs.size + 1) s2 H2 fp) rfl rfl rfl hc i [] s3 σ3 H3 _ J3 (stat fr3) st3 stop) fun r s4 ⟨hr, I4⟩ => ?_
        subst hr
        exact fin (i := i) I4 qn
      · refine thn (T.item (blk X N scope cl (s2.heap.objs.size + 1) s2 H2 fp) rfl rfl rfl hc i [] s3 σ3 H3 _ J3 (stat fr3) st3 go) fun r s4 ⟨u, hr, h4⟩ => ?_
        subst hr
        refine thn h4 fun _ s5 ⟨x, H5, I5, r5, y5, st5, fr5⟩ => ?_
        have I5' := I5.pinned (stat fr5) (T.obj _ _ st5)
        refine thn (hg _ _ _ _ _ _ s5 σ3 H5 x u _ I5' r5 (step x H5 y5)) fun _ s6 ⟨σ6, H6, I6, q6⟩ => ?_
        have again : ∀ {σ7 : St} {H7 : Hp} {s7 : Shared} {k : Nat}, Inv (blk X N scope cl (s2.heap.objs.size + 1) s2 H2 fp) ([] ++ pinsAt fp s5.heap) σ7 H7 s7 → k < n → W (i + 1) k σ7 H7 →
            ∃ k, k < n ∧ ∃ i σ' H', Inv (blk X N scope cl (s2.heap.objs.size + 1) s2 H2 fp) [] σ' H' s7 ∧ tn i s7.heap ∧ (∀ b ∈ fp, H' b = none) ∧ W i k σ' H' := fun {σ7 H7 s7 k} I7 hk w7 => by
          refine ⟨k, hk, i + 1, σ7, H7, I7.unpinned, T.keep _ _ _ st5 fun b hb o eb => (I7.pin (b, o) (List.mem_append_right _ (List.mem_append_right _ (mem_pinsAt hb eb)))).1, fun b hb => ?_, w7⟩
          obtain ⟨o, eb, _⟩ := T.obj _ _ st5 b hb
          exact (I7.pin (b, o) (List.mem_append_right _ (List.mem_append_right _ (mem_pinsAt hb eb)))).2.1
        refine thn (ht _ _ _ _ _ _ s6 σ6 H6 _ I6 q6) fun ok s7 ⟨H7, I7, q7⟩ => ?_
        cases ok with
        | false =>
          rw [if_neg Bool.false_ne_true] at q7 ⊢
          obtain ⟨k, hk, w7⟩ := q7
          exact again I7 hk w7
        | true =>
          rw [if_pos rfl] at q7 ⊢
          refine thn (he _ _ _ _ _ _ s7 σ6 H7 _ I7 q7) fun y s8 ⟨v8, H8, I8, r8, ys, e8, z8, k, hk, w8⟩ => ?_
          refine thn (mt_append _ s8 σ6 H8 (.ref s2.heap.objs.size) [v8] _ [y] (fun _ H9 => W (i + 1) k σ6 H9) I8 rfl (.cons r8 .nil) ⟨_, ys, v8, rfl, rfl, e8, z8, w8⟩) fun _ s9 ⟨_, H9, I9, _, w9⟩ => ?_
          exact again I9 hk w9
    · show upd H2 _ _ b = none
      rw [upd_ne (Nat.ne_of_lt (hlt b hb))]
      exact (f2 b hb).1
  rw [hsz]
  exact codeAny_compStart_list loop (T.self _ 0 _ _ _ (T.keep _ _ _ st2 fun b _ o eb => old b o eb) loop)
end L2
end
section
/-! SMALL RULES over the hand layer. -/
namespace L2
open PySem PySem.Spec PyProof.Rows
set_option maxHeartbeats 4000000
set_option Elab.async false
set_option linter.unusedVariables false

section
variable {X : Cx}
/-! ### is True, is False -/
theorem same_bl {x : V} {v : Value} (r : RelV x v) (k : Bool) : (v == Value.bool k) = decide (x = .bl k) ∧ plainIs v (.bool k) = true := by
  cases x with
  | non => cases (show v = Value.none from r); exact ⟨by cases k <;> rfl, rfl⟩
  | bl b => cases (show v = Value.bool b from r); exact ⟨by cases b <;> cases k <;> rfl, rfl⟩
  | int i => obtain ⟨t, rfl⟩ := (show ∃ t, v = Value.int i t from r); exact ⟨rfl, rfl⟩
  | str i => obtain ⟨t, rfl⟩ := (show ∃ t, v = Value.str i t from r); exact ⟨rfl, rfl⟩
  | byt i => obtain ⟨t, rfl⟩ := (show ∃ t, v = Value.bytes i t from r); exact ⟨rfl, rfl⟩
  | flt i => obtain ⟨t, rfl⟩ := (show ∃ t, v = Value.float i t from r); exact ⟨rfl, rfl⟩
  | ref a => cases (show v = Value.ref a from r); exact ⟨rfl, rfl⟩
  | ty n => cases (show v = Value.type n from r); exact ⟨rfl, rfl⟩
theorem op_isntB : OpR X (compareOp .IsNot) (fun x y H Q => ∃ k, y = .bl k ∧ Q (.bl (!decide (x = .bl k))) H) := by
  intro pins s σ H x y v u Q I rx ry h
  obtain ⟨k, rfl, q⟩ := h
  cases (show u = Value.bool k from ry)
  exact wpAny_isNot_plain (same_bl rx k).2 (fin_bl I q (by rw [(same_bl rx k).1]))

/-! ### isinstance of a built-in type -/
/-- what a value is, by the abstract heap -/
inductive Kn (H : Hp) : V → String → Prop where
  | non : Kn H .non "NoneType"
  | bl (b : Bool) : Kn H (.bl b) "bool"
  | int (i : Int) : Kn H (.int i) "int"
  | str (x : Str) : Kn H (.str x) "str"
  | lst {a : Addr} {xs : List V} (e : H a = some (.lst xs)) : Kn H (.ref a) "list"
  | tup {a : Addr} {xs : List V} (e : H a = some (.tup xs)) : Kn H (.ref a) "tuple"
  | dK {a : Addr} {kvs : List (Key × V)} (e : H a = some (.dK kvs)) : Kn H (.ref a) "dict"
theorem Kn.ty {K : PySem.W.Frag} {H : Hp} {v : V} {T : String} (h : Kn H v T) : TyOf K H v (.type T) := by
  cases h with
  | non => exact .non
  | bl b => exact .bl b
  | int i => exact .int i
  | str x => exact .str x
  | lst e => exact .lst e
  | tup e => exact .tup e
  | dK e => exact .dK e
noncomputable def subT (T U : String) : Bool := T == U || (T == "bool" && U == "int")
theorem kit_int {K : PySem.W.Frag} {H : Hp} {v : V} {T : String} (h : Kn H v T) : PySem.W.kitOne K (.type T) (.type "int") = some (subT T "int") := by
  cases h <;> rfl
theorem kit_bool {K : PySem.W.Frag} {H : Hp} {v : V} {T : String} (h : Kn H v T) : PySem.W.kitOne K (.type T) (.type "bool") = some (subT T "bool") := by
  cases h <;> rfl
theorem kit_tuple {K : PySem.W.Frag} {H : Hp} {v : V} {T : String} (h : Kn H v T) : PySem.W.kitOne K (.type T) (.type "tuple") = some (subT T "tuple") := by
  cases h <;> rfl
theorem kit_list {K : PySem.W.Frag} {H : Hp} {v : V} {T : String} (h : Kn H v T) : PySem.W.kitOne K (.type T) (.type "list") = some (subT T "list") := by
  cases h <;> rfl
theorem call_isi : CallR X (.builtin "isinstance") (fun xs H Q => ∃ x T U, xs = [x, .ty U] ∧ Kn H x T ∧ (U = "int" ∨ U = "bool" ∨ U = "tuple" ∨ U = "list") ∧ Q (.bl (subT T U)) H) := by
  intro pins s σ H xs us Q I r h
  obtain ⟨x, T, U, rfl, hk, hU, q⟩ := h
  obtain ⟨u, c, rfl, rx, rc⟩ := vals2 r
  cases (show c = Value.type U from rc)
  refine isinst_ok I rx hk.ty (b := subT T U) ?_ fun tk => ⟨.bl (subT T U), H, I.tok tk, rfl, q⟩
  rcases hU with rfl | rfl | rfl | rfl
  · exact kit_int hk
  · exact kit_bool hk
  · exact kit_tuple hk
  · exact kit_list hk

/-! ### all of a list of bools -/
/-! ### t + u of any tuples -/
theorem same_new {H : Hp} {p : Addr} (h : H p = none) (o : HO) : Same H (upd H p o) := fun b u q => by rw [upd_ne (ne_of_none q h)]; exact q
/-! ### t[lo:hi], the whole too -/
noncomputable def rSlA : V → Option Int → Option Int → Hp → VK → Prop := fun x lo hi H Q => ∃ a xs, x = .ref a ∧ H a = some (.tup xs) ∧ ∀ p H', Same H H' → H' p = some (.tup (cutV xs lo hi)) → Q (.ref p) H'
end

section
variable {prog : Program} {w : World} {A : Around} {E : Value → Shared → Prop} {s : Shared}
/-- t[k] of a tuple is what the tuple's own code tells -/
theorem tup_at {t : Addr} {items : Array Value} {k : Value} {Q : Value → Shared → Prop} (ht : IsTup s.heap t items)
    (h : wpAny (model prog w) A.in1 (Builtin.«tuple.__getitem__» ⟨[.ref t, k], []⟩) (fun fin s' => ∃ v, fin = .done (.ret v) ∧ Q v s') E s) : wpAny (model prog w) A (getItem (.ref t) k) Q E s := by
  have sl := PyProof.Rows.slot_tuple_getitem
  unfold getItem
  wp_walk using wpAny_sequenceKey ht.typeIs (by decide), wpAny_callSpecial?_slot (name := Str.ofString "__getitem__") ht.typeIs sl (wpAny_call_entry sl ht.typeIs entry_tuple_getitem (wpAny_mono h (fun fin s' ⟨v, e, q⟩ => ⟨v, e, wpAny_pure q⟩) fun _ _ e => e) (args_tuple_getitem _ _))
theorem cut_whole {t sl : Addr} {items : Array Value} {vl vu : Value} {lo hi : Option Int} {Q : Value → Shared → Prop} (ht : IsTup s.heap t items) (hs : s.heap.IsSliceOf sl vl vu .none) (pl : IsPart vl lo) (pu : IsPart vu hi)
    (hw : HT.sIx items.size 0 lo = 0 ∧ HT.sIx items.size items.size hi = items.size) (h : Q (.ref t) s) : wpAny (model prog w) A (getItem (.ref t) (.ref sl)) Q E s := by
  have f1 : s.TypeIs (.ref sl) "slice" := let ⟨o, ho, hc, _⟩ := hs; ⟨o, ho, hc⟩
  have f2 := ht.typeIs
  refine tup_at ht ?_
  wp_walk using tupleItemsOf_ ht, HT.sliceApplied_gen hs pl pu
  exact ⟨_, rfl, h⟩
end

section
variable {X : Cx}
theorem sl_tupA : SlR X rSlA := by
  intro pins s σ H x v vl vu lo hi sl Q I rx hs pl pu h
  obtain ⟨a, xs, rfl, hx, q⟩ := h
  cases (show v = Value.ref a from rx)
  by_cases hw : HT.sIx xs.length 0 lo = 0 ∧ HT.sIx xs.length xs.length hi = xs.length
  · obtain ⟨its, r, ht, hz⟩ := I.tuple (SqT.of hx)
    have hlen : its.toArray.size = xs.length := by rw [List.size_toArray]; exact r.length.symm
    refine ⟨"tuple", _, PyProof.Rows.slot_tuple_getitem.lookup, ht.typeIs, cut_whole ht hs pl pu (by rw [hlen]; exact hw) ⟨.ref a, H, I, rfl, q a H (Same.refl H) ?_⟩⟩
    rw [hx]
    unfold cutV
    rw [hw.1, hw.2, List.drop_zero, Nat.sub_zero, List.take_length]
  · exact sl_tup (X := X) pins s σ H (.ref a) _ vl vu lo hi sl Q I rfl hs pl pu ⟨a, xs, rfl, SqT.of hx, hw, fun p hp => q p _ (same_new hp _) upd_same⟩
end
end L2
end
section
/-! zip(a, b) of two lists or two tuples, walked by a loop or a comprehension with a pair as its target.
The built-ins' own code is walked by `wp_walk`; what is said here is what the heap holds behind it. -/
namespace L2
open PySem PySem.Spec PyProof.Rows
set_option maxHeartbeats 4000000
set_option maxRecDepth 100000
set_option Elab.async false
set_option linter.unusedVariables false

/-- an iterator that zip asks, and what it stands upon -/
structure Nx (P : Program) (w : World) (i l : Addr) (pl : Nat → Heap → Prop) (vs : Array Value) : Prop where
  ne : l ≠ i
  there : ∀ k h, pl k h → (∃ o, h.get? i = some o ∧ (∃ c, o.cls = .type c ∧ (c = "list_iterator" ∨ c = "tuple_iterator")) ∧ ∃ f, o.data = .fields f) ∧ ∃ o, h.get? l = some o ∧ (o.cls = .type "list" ∨ o.cls = .type "tuple")
  keep : ∀ k h h', pl k h → (∀ o, h.get? i = some o → h'.get? i = some o) → (∀ o, h.get? l = some o → h'.get? l = some o) → pl k h'
  item : ∀ (A : Around) k (s : Shared) (Q : Value → Shared → Prop) (E : Value → Shared → Prop) x, pl k s.heap → vs[k]? = some x → (∀ h', pl (k + 1) h' → Heap.SameBut i s.heap h' → Q x { s with heap := h' }) →
    wpAny (model P w) A (Builtin.SmallTypes.nextOf (.ref i)) Q E s
  done : ∀ (A : Around) k (s : Shared) (Q : Value → Shared → Prop) (E : Value → Shared → Prop), A.handled = none → pl k s.heap → vs[k]? = none →
    (∀ h' e, Heap.ExtBut i s.heap h' → (∃ o, h'.get? e = some o ∧ o.cls = .type "StopIteration") → E (.ref e) { s with heap := h' }) → wpAny (model P w) A (Builtin.SmallTypes.nextOf (.ref i)) Q E s

theorem nx_list {P : Program} {w : World} {i l : Addr} (vs : Array Value) (hne : l ≠ i) : Nx P w i l (fun k h => h.IsListIter i l k ∧ h.IsList l vs) vs where
  ne := hne
  there := fun k h ⟨⟨o, e, c, d⟩, ⟨o', e', c', _⟩⟩ => ⟨⟨o, e, ⟨_, c, .inl rfl⟩, _, d⟩, o', e', .inl c'⟩
  keep := fun k h h' ⟨a, b⟩ e1 e2 => ⟨a.at e1, b.at e2⟩
  item := fun A k s Q E x ⟨a, b⟩ hx q => wpAny_nextOf_list_item a b hx fun h' a' sb => q h' ⟨a', b.extBut sb.extBut hne⟩ sb
  done := fun A k s Q E hh ⟨a, b⟩ hx q => wpAny_nextOf_list_end hh a b hx q

/-! ### a tuple's iterator -/
/-- one more item: the code walked -/
theorem tn_item (it t : Addr) (i : Nat) (dc : Option Addr) (sl : Array (Option Value)) (items : Array Value) (x : Value) (hx : items[i]? = some x) :
    Meets (Builtin.«tuple_iterator.__next__» ⟨[.ref it], []⟩) (fun _ R s => s.heap.get? it = some ⟨.type "tuple_iterator", dc, .fields #[.ref t, .int i 0], sl⟩ ∧ s.heap.IsTuple t items ∧
      ∀ h', h'.IsTupleIter it t (i + 1) → Heap.SameBut it s.heap h' → R (.ok (.ret x)) { s with heap := h' }) :=
  .of_wp fun prog w A R s h => by
    obtain ⟨hp, g, d, tk, os⟩ := s
    obtain ⟨h1, ⟨⟨c, dc2, dt, sl2⟩, h2, hc, n, hd⟩, h⟩ := h
    simp only at hc hd
    subst hc hd
    simp only at h1 h2
    wp_walk
    rw [Int.toNat_natCast, hx]
    wp_walk
    exact ⟨_, rfl, h _ ⟨_, Heap.get?_update_self _ h1 rfl, rfl, rfl⟩ (.update ..)⟩
/-- no more items -/
theorem tn_end (it t : Addr) (i : Nat) (dc : Option Addr) (sl : Array (Option Value)) (items : Array Value) (hx : items[i]? = none) :
    Meets (Builtin.«tuple_iterator.__next__» ⟨[.ref it], []⟩) (fun A R s => A.handled = none ∧ s.heap.get? it = some ⟨.type "tuple_iterator", dc, .fields #[.ref t, .int i 0], sl⟩ ∧ s.heap.IsTuple t items ∧
      ∀ h' e, Heap.ExtBut it s.heap h' → (∃ o, h'.get? e = some o ∧ o.cls = .type "StopIteration") → R (.error (.ref e)) { s with heap := h' }) :=
  .of_wp fun prog w A R s h => by
    obtain ⟨hp, g, d, tk, os⟩ := s
    obtain ⟨hh, h1, ⟨⟨c, dc2, dt, sl2⟩, h2, hc, n, hd⟩, h⟩ := h
    simp only at hc hd
    subst hc hd
    simp only at h1 h2
    wp_walk
    rw [Int.toNat_natCast, hx]
    wp_walk
    exact wpAny_raiseNew_none hh (h _ _ (fun b o n e => by repeat (first | exact Heap.get?_update_of_ne _ (Ne.symm n) e | refine Heap.get?_push_of_some _ ?_)) ⟨_, Heap.get?_push_size _ rfl, rfl⟩)
theorem nx_tup {P : Program} {w : World} {i l : Addr} (vs : Array Value) (hne : l ≠ i) : Nx P w i l (fun k h => h.IsTupleIter i l k ∧ h.IsTuple l vs) vs where
  ne := hne
  there := fun k h ⟨⟨o, e, c, d⟩, ⟨o', e', c', _⟩⟩ => ⟨⟨o, e, ⟨_, c, .inr rfl⟩, _, d⟩, o', e', .inr c'⟩
  keep := fun k h h' ⟨a, b⟩ e1 e2 => ⟨a.at e1, b.at e2⟩
  item := fun A k s Q E x ⟨a, b⟩ hx q => by
    obtain ⟨⟨c, dc, dt, sl⟩, e, hc, hd⟩ := a
    simp only at hc hd
    subst hc hd
    have hT : s.TypeIs (.ref i) "tuple_iterator" := ⟨_, e, rfl⟩
    exact wpAny_bind (wpAny_callSpecial?_slot (name := Str.ofString "__next__") hT F.slot_tuple_iterator_next (call_meets F.slot_tuple_iterator_next hT F.entry_tuple_iterator_next (F.args_tuple_iterator_next_1 _)
      (tn_item i l k dc sl vs x hx) ⟨e, b, fun h' a' sb => wpAny_pure (q h' ⟨a', b.extBut sb.extBut hne⟩ sb)⟩))
  done := fun A k s Q E hh ⟨a, b⟩ hx q => by
    obtain ⟨⟨c, dc, dt, sl⟩, e, hc, hd⟩ := a
    simp only at hc hd
    subst hc hd
    have hT : s.TypeIs (.ref i) "tuple_iterator" := ⟨_, e, rfl⟩
    exact wpAny_bind (wpAny_callSpecial?_slot (name := Str.ofString "__next__") hT F.slot_tuple_iterator_next (call_meets F.slot_tuple_iterator_next hT F.entry_tuple_iterator_next (F.args_tuple_iterator_next_1 _)
      (tn_end i l k dc sl vs hx) ⟨hh, e, b, q⟩))

/-! ### a turn of zip -/
section
variable {P : Program} {w : World} {A : Around} {E : Value → Shared → Prop} {s : Shared} {z TI TO i j l m : Addr} {p1 p2 : Nat → Heap → Prop} {xs ys : Array Value} {k : Nat}
theorem zip_item {x y a b : Value} {Q : Option Value → Shared → Prop} (nd : [z, TI, TO, i, j].Nodup) (c1 : l ∉ [z, TI, TO, i, j]) (c2 : m ∉ [z, TI, TO, i, j]) (N1 : Nx P w i l p1 xs) (N2 : Nx P w j m p2 ys)
    (hz : IsZip s.heap z TI TO .none) (hTI : IsPair s.heap TI (.ref i) (.ref j)) (hTO : IsPair s.heap TO a b) (q1 : p1 k s.heap) (q2 : p2 k s.heap) (hx : xs[k]? = some x) (hy : ys[k]? = some y)
    (hQ : ∀ h', IsZip h' z TI TO (rawInt s.heap.objs.size) → IsPair h' TO x y → p1 (k + 1) h' → p2 (k + 1) h' → IsPair h' s.heap.objs.size x y → h'.objs.size = s.heap.objs.size + 1 →
      (∀ c o, c ≠ z → c ≠ TO → c ≠ i → c ≠ j → s.heap.get? c = some o → h'.get? c = some o) → Q (some (.ref s.heap.objs.size)) { s with heap := h' }) :
    wpAny (model P w) A (pyNext (.ref z)) Q E s := by
  simp only [List.nodup_cons, List.mem_cons, List.not_mem_nil, or_false, not_or, not_false_eq_true, and_true, List.nodup_nil] at nd c1 c2
  have hT : s.TypeIs (.ref z) "zip" := ⟨_, hz, rfl⟩
  unfold pyNext
  refine wpAny_bind (wpAny_attempt (wpAny_callSpecial?_slot (name := Str.ofString "__next__") hT F.slot_zip_next (wpAny_call_entry F.slot_zip_next hT F.entry_zip_next ?_ (F.args_zip_next_1 _))))
  obtain ⟨hp, g, d, tk, os⟩ := s
  wp_walk using wpAny_onRaise, N1.item _ k _ _ _ x
  · exact N1.keep _ _ _ q1 (fun o e => Heap.get?_update_of_ne _ nd.1.2.2.1 e) fun o e => Heap.get?_update_of_ne _ (Ne.symm c1.1) e
  · exact hx
  intro g2 r2 s2
  have t2 : IsPair g2 TO a b := s2.extBut _ _ nd.2.2.1.1 (Heap.get?_update_of_ne _ nd.1.2.1 hTO)
  wp_walk using wpAny_onRaise, N2.item _ k _ _ _ y
  · exact N2.keep _ _ _ q2 (fun o e => Heap.get?_update_of_ne _ nd.2.2.1.2 (s2.extBut _ _ (Ne.symm nd.2.2.2) (Heap.get?_update_of_ne _ nd.1.2.2.2 e)))
      fun o e => Heap.get?_update_of_ne _ (Ne.symm c2.2.2.1) (s2.extBut _ _ c2.2.2.2.1 (Heap.get?_update_of_ne _ (Ne.symm c2.1) e))
  · exact hy
  intro g4 r4 s4
  have t4 := s4.extBut _ _ nd.2.2.1.2 (Heap.get?_update_self (Obj.mapSeq fun q => q.setIfInBounds 0 x) t2 rfl)
  have nz : TO ≠ z := Ne.symm nd.1.2.1
  have z4 := s4.extBut _ _ nd.1.2.2.2 (Heap.get?_update_of_ne (Obj.mapSeq fun q => q.setIfInBounds 0 x) nz (s2.extBut _ _ nd.1.2.2.1 (Heap.get?_update_self (Obj.mapFields fun q => q.setIfInBounds 0 Value.ellipsis) hz rfl)))
  wp_walk
  refine ⟨_, rfl, wpAny_pure ?_⟩
  have sz : (g4.update TO (Obj.mapSeq fun q => q.setIfInBounds (0 + 1) y)).objs.size = hp.objs.size := by
    rw [Heap.size_after_update, s4.1]
    show (g2.update TO _).objs.size = _
    rw [Heap.size_after_update, s2.1]
    exact Heap.size_after_update ..
  rw [sz]
  have zl : z < hp.objs.size := Heap.lt_size hz
  have last : ∀ {G : Heap} {c : Addr} {o : Obj} {f1 f2 : Obj → Obj}, c ≠ z → G.get? c = some o → ((G.update z f1).update z f2).get? c = some o := fun n e => Heap.get?_update_of_ne _ (Ne.symm n) (Heap.get?_update_of_ne _ (Ne.symm n) e)
  have mid : ∀ {c : Addr} {o : Obj} {T : Obj}, c ≠ TO → g4.get? c = some o → ((g4.update TO (Obj.mapSeq fun q => q.setIfInBounds (0 + 1) y)).push T).get? c = some o := fun n e => Heap.get?_push_of_some _ (Heap.get?_update_of_ne _ (Ne.symm n) e)
  refine hQ _ (Heap.get?_update_self _ (Heap.get?_update_self _ (mid (Ne.symm nz) z4) rfl) rfl) (last nz (Heap.get?_push_of_some _ (Heap.get?_update_self _ t4 rfl)))
    (N1.keep _ _ _ r2 (fun o e => last (Ne.symm nd.1.2.2.1) (mid (Ne.symm nd.2.2.1.1) (s4.extBut _ _ nd.2.2.2 (Heap.get?_update_of_ne _ nd.2.2.1.1 e))))
      fun o e => last c1.1 (mid c1.2.2.1 (s4.extBut _ _ c1.2.2.2.2 (Heap.get?_update_of_ne _ (Ne.symm c1.2.2.1) e))))
    (N2.keep _ _ _ r4 (fun o e => last (Ne.symm nd.1.2.2.2) (mid (Ne.symm nd.2.2.1.2) e)) fun o e => last c2.1 (mid c2.2.2.1 e))
    (last (Nat.ne_of_gt zl) (Heap.get?_push_at sz.symm rfl)) ?_ fun c o n1 n2 n3 n4 e => last n1 (mid n2 (s4.extBut _ _ n4 (Heap.get?_update_of_ne _ (Ne.symm n2) (s2.extBut _ _ n3 (Heap.get?_update_of_ne _ (Ne.symm n1) e)))))
  rw [Heap.size_after_update, Heap.size_after_update, Heap.size_push, sz]
theorem zip_done {a b : Value} {Q : Option Value → Shared → Prop} (hh : A.handled = none) (nd : [z, TI, TO, i, j].Nodup) (c1 : l ∉ [z, TI, TO, i, j]) (c2 : m ∉ [z, TI, TO, i, j]) (N1 : Nx P w i l p1 xs) (N2 : Nx P w j m p2 ys)
    (hz : IsZip s.heap z TI TO .none) (hTI : IsPair s.heap TI (.ref i) (.ref j)) (hTO : IsPair s.heap TO a b) (q1 : p1 k s.heap) (q2 : p2 k s.heap) (hend : xs[k]? = none ∨ ys[k]? = none)
    (hQ : ∀ h', (∀ c o, c ≠ z → c ≠ TO → c ≠ i → c ≠ j → s.heap.get? c = some o → h'.get? c = some o) → Q none { s with heap := h' }) : wpAny (model P w) A (pyNext (.ref z)) Q E s := by
  simp only [List.nodup_cons, List.mem_cons, List.not_mem_nil, or_false, not_or, not_false_eq_true, and_true, List.nodup_nil] at nd c1 c2
  have hT : s.TypeIs (.ref z) "zip" := ⟨_, hz, rfl⟩
  have stop : ∀ (G : Heap) (e : Addr) (o : Obj), G.get? z = some ⟨.type "zip", none, .fields #[.ellipsis, .bool false, .bool false, .ref TI, .ref TO], #[]⟩ → G.get? e = some o → o.cls = .type "StopIteration" →
      (∀ c o, c ≠ z → c ≠ TO → c ≠ i → c ≠ j → s.heap.get? c = some o → G.get? c = some o) →
      wpAny (model P w) A.in1 (setField (.ref z) 0 .none) (fun _ s'' => wpAny (model P w) A (do if (← isInstance (.ref e) (.type "StopIteration")) = true then pure none else throw (.ref e)) Q E s'') (fun e' s'' => wpAny (model P w) A (do if (← isInstance e' (.type "StopIteration")) = true then pure none else throw e') Q E s'') { s with heap := G } := fun G e o g1 g2 hc kp => by
    have ne : z ≠ e := fun q => by subst q; rw [g1] at g2; cases g2; exact absurd (show Value.type "zip" = Value.type "StopIteration" from hc) (by decide)
    have g3 := Heap.get?_update_of_ne (Obj.mapFields fun q => q.setIfInBounds 0 Value.none) ne g2
    obtain ⟨hp, gs, d, tk, os⟩ := s
    have ht : Shared.TypeIs ⟨G.update z (Obj.mapFields fun q => q.setIfInBounds 0 Value.none), gs, d, tk, os⟩ (.ref e) "StopIteration" := ⟨o, g3, hc⟩
    have sub := isSubtype_stop
    wp_walk
    exact hQ _ fun c o n1 n2 n3 n4 q => Heap.get?_update_of_ne _ (Ne.symm n1) (kp c o n1 n2 n3 n4 q)
  unfold pyNext
  refine wpAny_bind (wpAny_attempt (wpAny_callSpecial?_slot (name := Str.ofString "__next__") hT F.slot_zip_next (wpAny_call_entry F.slot_zip_next hT F.entry_zip_next ?_ (F.args_zip_next_1 _))))
  have z1 := Heap.get?_update_self (Obj.mapFields fun q => q.setIfInBounds 0 Value.ellipsis) hz rfl
  obtain ⟨hp, g, d, tk, os⟩ := s
  have f1 : p1 k (hp.update z (Obj.mapFields fun q => q.setIfInBounds 0 Value.ellipsis)) := N1.keep _ _ _ q1 (fun o e => Heap.get?_update_of_ne _ nd.1.2.2.1 e) fun o e => Heap.get?_update_of_ne _ (Ne.symm c1.1) e
  cases hx : xs[k]? with
  | none =>
    wp_walk using wpAny_onRaise, N1.done _ k
    · exact hh
    · exact f1
    · exact hx
    intro g2 e s2 he
    obtain ⟨o, ho, hc⟩ := he
    exact stop g2 e o (s2 _ _ nd.1.2.2.1 z1) ho hc fun c o n1 n2 n3 n4 q => s2 _ _ n3 (Heap.get?_update_of_ne _ (Ne.symm n1) q)
  | some x =>
    have hy : ys[k]? = none := hend.resolve_left (by rw [hx]; exact nofun)
    wp_walk using wpAny_onRaise, N1.item _ k _ _ _ x
    · exact f1
    · exact hx
    intro g2 r2 s2
    have t2 : IsPair g2 TO a b := s2.extBut _ _ nd.2.2.1.1 (Heap.get?_update_of_ne _ nd.1.2.1 hTO)
    wp_walk using wpAny_onRaise, N2.done _ k
    · exact hh
    · exact N2.keep _ _ _ q2 (fun o e => Heap.get?_update_of_ne _ nd.2.2.1.2 (s2.extBut _ _ (Ne.symm nd.2.2.2) (Heap.get?_update_of_ne _ nd.1.2.2.2 e)))
        fun o e => Heap.get?_update_of_ne _ (Ne.symm c2.2.2.1) (s2.extBut _ _ c2.2.2.2.1 (Heap.get?_update_of_ne _ (Ne.symm c2.1) e))
    · exact hy
    intro g4 e s4 he
    obtain ⟨o, ho, hc⟩ := he
    exact stop g4 e o (s4 _ _ nd.1.2.2.2 (Heap.get?_update_of_ne _ (Ne.symm nd.1.2.1) (s2.extBut _ _ nd.1.2.2.1 z1))) ho hc
      fun c o n1 n2 n3 n4 q => s4 _ _ n4 (Heap.get?_update_of_ne _ (Ne.symm n2) (s2.extBut _ _ n3 (Heap.get?_update_of_ne _ (Ne.symm n1) q)))
end
end L2
end
section
/-! zip walked; ranges as lists and tuples; the empty dict. -/
namespace L2
open PySem PySem.Spec PyProof.Rows
set_option maxHeartbeats 4000000
set_option maxRecDepth 100000
set_option Elab.async false
set_option linter.unusedVariables false

/-! ### ranges -/
section
variable {prog : Program} {w : World} {A : Around} {E : Value → Shared → Prop} {s : Shared} {r : Addr} {a b c : Int} {t u v : Tok} {n : Nat}
end
/-- the ints lo, lo + 1, .. (n of them) -/
noncomputable def ups (lo : Int) (n : Nat) : List Int := (List.range n).map fun (k : Nat) => lo + (k : Int)
theorem ups_length (lo : Int) (n : Nat) : (ups lo n).length = n := by unfold ups; rw [List.length_map, List.length_range]
theorem vals_items {lo : Int} {n : Nat} {acc : Array Value} (h : ItemsOf (fun i v => ∃ t, v = Value.int (lo + i * 1) t) acc n) : Vals ((ups lo n).map V.int) acc.toList := by
  have : ∀ (us : List Value) (ns : List Int), us.length = ns.length → (∀ (j : Nat) (u : Value), us[j]? = some u → ∃ t, ∃ i, ns[j]? = some i ∧ u = Value.int i t) → Vals (ns.map V.int) us := by
    intro us
    induction us with
    | nil => intro ns hl _; cases ns with
      | nil => exact .nil
      | cons => cases hl
    | cons x r ih =>
      intro ns hl hh
      cases ns with
      | nil => cases hl
      | cons n ns =>
        obtain ⟨t, i, e1, e2⟩ := hh 0 x rfl
        have : n = i := by simpa using e1
        subst this
        exact .cons ⟨t, e2⟩ (ih ns (by simpa using hl) fun j u hj => hh (j + 1) u (by simpa using hj))
  refine this _ _ (by rw [ups_length, Array.length_toList]; exact h.1) fun j u hj => ?_
  have hj' : acc[j]? = some u := by simpa using hj
  obtain ⟨t, e⟩ := h.2 j u hj'
  have hjn : j < n := by rw [← h.1]; exact (Array.getElem?_eq_some_iff.mp hj').1
  refine ⟨t, lo + (j : Int), ?_, by rw [e, Int.mul_one]⟩
  unfold ups
  rw [List.getElem?_map, List.getElem?_range hjn]
  rfl
section
variable {X : Cx}
theorem call_rng2 : CallR X (.type "range") (fun xs H Q => ∃ i j : Int, xs = [.int i, .int j] ∧ ∀ p, H p = none → Q (.ref p) (upd H p (.rng i j))) := by
  intro pins s σ H xs us Q I r h
  obtain ⟨i, j, rfl, q⟩ := h
  obtain ⟨u, u', rfl, r1, r2⟩ := vals2 r
  obtain ⟨t, rfl⟩ := (show ∃ t, u = Value.int i t from r1)
  obtain ⟨t', rfl⟩ := (show ∃ t, u' = Value.int j t from r2)
  refine call_range_2 ⟨.ref s.heap.objs.size, _, I.laid (a := s.heap.objs.size) (o := .rng i j) (fun b ob q => Heap.get?_push_of_some _ q) (Nat.le_refl _) ⟨_, _, _, Heap.get?_push_size _ rfl⟩, rfl, q _ (I.hok.fresh (Nat.le_refl _))⟩
theorem call_list_rng (hc : X.calm = true) : CallR X (.type "list") (fun xs H Q => ∃ p i j, xs = [.ref p] ∧ H p = some (.rng i j) ∧ (-(2 ^ 62) ≤ i ∧ i < 2 ^ 62 ∧ -(2 ^ 62) ≤ j ∧ j < 2 ^ 62) ∧ (j - i).toNat ≤ sizeLine ∧
    ∀ l, H l = none → Q (.ref l) (upd H l (.lst ((ups i (j - i).toNat).map V.int)))) := by
  intro pins s σ H xs us Q I r h
  obtain ⟨p, i, j, rfl, hp, ⟨b1, b2, b3, b4⟩, hz, q⟩ := h
  obtain ⟨u, rfl, rx⟩ := vals1 r
  cases (show u = Value.ref p from rx)
  obtain ⟨t1, t2, t3, ho⟩ := (show ObjOk X.prog X.w H s.heap p (.rng i j) from I.hok p _ hp)
  refine call_list_range (I.ok.hd hc) ho (small_one b1 b2 b3 b4) (n := (j - i).toNat) (by rw [rangeSize_one]; split <;> omega) (by rw [sizeLine_eq] at hz; exact hz) fun h' tk acc c' hk hS hacc => ?_
  refine ⟨.ref s.heap.objs.size, _, I.laid (a := s.heap.objs.size) (t' := tk) (o := .lst ((ups i (j - i).toNat).map V.int)) hk (Nat.le_refl _) ?_, rfl, q _ (I.hok.fresh (Nat.le_refl _))⟩
  refine ⟨by rw [List.length_map, ups_length]; exact hz, acc.toList, c', vals_items hacc, ?_⟩
  have e : acc.toList.toArray = acc := by simp
  rw [e]
  exact hS

/-! ### {} -/
end
end L2
end
section
/-! zip(a, b) of two tuples or two lists, walked with a pair as target. -/
namespace L2
open PySem PySem.Spec PyProof.Rows
set_option maxHeartbeats 4000000
set_option maxRecDepth 100000
set_option Elab.async false
set_option linter.unusedVariables false

/-- kinds: true a tuple, false a list -/
noncomputable def ItAt (t : Bool) (i l : Addr) (k : Nat) (h : Heap) : Prop := match t with
  | true => h.IsTupleIter i l k
  | false => h.IsListIter i l k
noncomputable def SqK (t : Bool) (K : PySem.W.Frag) (H : Hp) (l : Addr) (xs : List V) : Prop := match t with
  | true => SqT K H l xs
  | false => SqL K H l xs
theorem ItAt.at {t : Bool} {i l : Addr} {k : Nat} {h h' : Heap} (x : ItAt t i l k h) (e : ∀ o, h.get? i = some o → h'.get? i = some o) : ItAt t i l k h' := by
  cases t
  · exact Heap.IsListIter.at x e
  · exact Heap.IsTupleIter.at x e
theorem ItAt.obj {t : Bool} {i l : Addr} {k : Nat} {h : Heap} (x : ItAt t i l k h) : ∃ o f c, h.get? i = some o ∧ o.data = .fields f ∧ o.cls = .type c ∧ (c = "list_iterator" ∨ c = "tuple_iterator") := by
  cases t
  · obtain ⟨o, e, c, d⟩ := (show h.IsListIter i l k from x)
    exact ⟨o, _, _, e, d, c, .inl rfl⟩
  · obtain ⟨o, e, c, d⟩ := (show h.IsTupleIter i l k from x)
    exact ⟨o, _, _, e, d, c, .inr rfl⟩
section
variable {X : Cx} {pins : List (Addr × Obj)} {σ : St} {H : Hp} {s : Shared}
theorem Inv.sqk {t : Bool} {l : Addr} {xs : List V} (I : Inv X pins σ H s) (h : SqK t X.K H l xs) : ∃ its : List Value, Vals xs its ∧ (∃ o, s.heap.get? l = some o ∧ (o.cls = .type "list" ∨ o.cls = .type "tuple")) ∧
    ∀ (i : Addr), l ≠ i → ∃ pl : Nat → Heap → Prop, Nx X.prog X.w i l pl its.toArray ∧ (∀ k, ItAt t i l k s.heap → pl k s.heap) ∧ (∀ k h', pl k h' → ItAt t i l k h') := by
  cases t
  · obtain ⟨its, r, p, hz⟩ := I.list (show SqL X.K H l xs from h)
    obtain ⟨o, ho, hc, n, hd⟩ := id p.isList
    exact ⟨its, r, ⟨o, ho, .inl hc⟩, fun i ne => ⟨_, nx_list its.toArray ne, fun k z => ⟨z, p.isList⟩, fun k h' z => z.1⟩⟩
  · obtain ⟨its, r, p, hz⟩ := I.tuple (show SqT X.K H l xs from h)
    obtain ⟨o, ho, hc, n, hd⟩ := id p
    exact ⟨its, r, ⟨o, ho, .inr hc⟩, fun i ne => ⟨_, nx_tup its.toArray ne, fun k z => ⟨z, p⟩, fun k h' z => z.1⟩⟩
theorem Inv.sqk_inj {t : Bool} {l : Addr} {xs ys : List V} (I : Inv X pins σ H s) (h : SqK t X.K H l xs) (h' : SqK t X.K H l ys) : xs = ys := by
  cases t
  · exact I.list_inj h h'
  · exact I.tuple_inj h h'
end

/-- the pairs of two sequences -/
noncomputable def Itz (t : Bool) (K : PySem.W.Frag) (l m : Addr) : It where
  go := fun i H => ∃ xs ys x y, SqK t K H l xs ∧ SqK t K H m ys ∧ xs[i]? = some x ∧ ys[i]? = some y
  yld := fun i H v H' => ∃ p x y, v = .ref p ∧ H p = none ∧ H' = upd H p (.tup [x, y]) ∧ (∀ xs, SqK t K H l xs → xs[i]? = some x) ∧ ∀ ys, SqK t K H m ys → ys[i]? = some y
  stop := fun i H => ∃ xs ys, SqK t K H l xs ∧ SqK t K H m ys ∧ (xs[i]? = none ∨ ys[i]? = none)

theorem turn_zip {P : Program} {w : World} {K : PySem.W.Frag} {es : List Expr} {k0 : Nat} {pos : Pos} {t : Bool} {z TI TO i j l m : Addr} (a1 : TI ≠ z) (a2 : TO ≠ z) (a3 : i ≠ z) (a4 : j ≠ z) (a5 : TI ≠ TO) (a6 : TI ≠ i) (a7 : TI ≠ j) (a8 : TO ≠ i) (a9 : TO ≠ j) (b1 : i ≠ j)
    (c1 : l ∉ [z, TI, TO, i, j]) (c2 : m ∉ [z, TI, TO, i, j]) :
    Turn P w K (.Tuple es k0 pos) (Itz t K l m) [z, TI, TO, i, j] z (fun k h => IsZip h z TI TO .none ∧ IsPair h TI (.ref i) (.ref j) ∧ (∃ a b, IsPair h TO a b) ∧ ItAt t i l k h ∧ ItAt t j m k h) where
  mem := by simp
  obj := fun k h ⟨hz, h1, ⟨a, b, h2⟩, h3, h4⟩ c hc => by
    obtain ⟨o1, f1, _, e1, d1, _⟩ := h3.obj
    obtain ⟨o2, f2, _, e2, d2, _⟩ := h4.obj
    simp only [List.mem_cons, List.not_mem_nil, or_false] at hc
    rcases hc with rfl | rfl | rfl | rfl | rfl
    · exact ⟨_, hz, fun v q => by cases q⟩
    · exact ⟨_, h1, fun v q => by cases q⟩
    · exact ⟨_, h2, fun v q => by cases q⟩
    · exact ⟨_, e1, fun v q => by rw [d1] at q; cases q⟩
    · exact ⟨_, e2, fun v q => by rw [d2] at q; cases q⟩
  keep := fun k h h' ⟨hz, h1, ⟨a, b, h2⟩, h3, h4⟩ kp => ⟨kp z (by simp) _ hz, kp TI (by simp) _ h1, ⟨a, b, kp TO (by simp) _ h2⟩, h3.at fun o e => kp i (by simp) o e, h4.at fun o e => kp j (by simp) o e⟩
  item := by
    intro X hP hw hK hc k pins s σ H E I hf st hg
    subst hP hw hK
    obtain ⟨xs, ys, x, y, hl, hm, hx, hy⟩ := hg
    obtain ⟨hz, h1, ⟨a, b, h2⟩, h3, h4⟩ := st
    have cl := c1
    have cm := c2
    simp only [List.mem_cons, List.not_mem_nil, or_false, not_or] at c1 c2
    obtain ⟨its, r1, _, n1⟩ := I.sqk hl
    obtain ⟨jts, r2, _, n2⟩ := I.sqk hm
    obtain ⟨p1, N1, u1, v1⟩ := n1 i c1.2.2.2.1
    obtain ⟨p2, N2, u2, v2⟩ := n2 j c2.2.2.2.2
    obtain ⟨u, hu, ru⟩ := r1.get hx
    obtain ⟨u', hu', ru'⟩ := r2.get hy
    have D : [z, TI, TO, i, j].Nodup := by simp [a1, a2, a3, a4, a5, a6, a7, a8, a9, b1, Ne.symm a1, Ne.symm a2, Ne.symm a3, Ne.symm a4]
    refine zip_item D cl cm N1 N2 hz h1 h2 (u1 k h3) (u2 k h4) (x := u) (y := u') (by simpa using hu) (by simpa using hu') fun h' z1 z2 z3 z4 z5 z6 kp => ?_
    refine ⟨_, rfl, wpAny_letOwnedTupleGo_zip z1 fun h'' y1 sb => ?_⟩
    have fz : H s.heap.objs.size = none := I.hok.fresh (Nat.le_refl _)
    have zlt : z < s.heap.objs.size := Heap.lt_size hz
    have mine : ∀ c ∈ [z, TI, TO, i, j], c ≠ s.heap.objs.size := fun c hc' => by
      obtain ⟨o1, f1, _, e1, d1, _⟩ := h3.obj
      obtain ⟨o2, f2, _, e2, d2, _⟩ := h4.obj
      simp only [List.mem_cons, List.not_mem_nil, or_false] at hc'
      rcases hc' with rfl | rfl | rfl | rfl | rfl
      · exact Nat.ne_of_lt (Heap.lt_size hz)
      · exact Nat.ne_of_lt (Heap.lt_size h1)
      · exact Nat.ne_of_lt (Heap.lt_size h2)
      · exact Nat.ne_of_lt (Heap.lt_size e1)
      · exact Nat.ne_of_lt (Heap.lt_size e2)
    have kp2 : ∀ c o, c ∉ [z, TI, TO, i, j] → s.heap.get? c = some o → h''.get? c = some o := fun c o hc' e => by
      simp only [List.mem_cons, List.not_mem_nil, or_false, not_or] at hc'
      exact sb.extBut _ _ hc'.1 (kp c o hc'.1 hc'.2.2.1 hc'.2.2.2.1 hc'.2.2.2.2 e)
    have tp : h''.get? s.heap.objs.size = some { cls := .type "tuple", data := .seq #[u, u'] } := sb.extBut _ _ (mine z (by simp)).symm z5
    have notH : ∀ c ∈ [z, TI, TO, i, j], H c = none := fun c hc' => (hf c hc').1
    have I1 : Inv X pins σ (upd H s.heap.objs.size (.tup [x, y])) { s with heap := h'' } := by
      have un : Un X.fs [z, TI, TO, i, j] H (upd H s.heap.objs.size (.tup [x, y])) s.heap h'' :=
        ⟨fun c o e n nf hx => kp2 c o hx e, fun c o e n nf hx => ⟨o.slots, kp2 c o hx e⟩, fun c o e n hx => by rw [upd_ne (Nat.ne_of_lt (Heap.lt_size e))]; exact n,
          fun c o e hx => ⟨o, kp2 c o hx e⟩, fun c xs e => by rw [upd_ne (ne_of_none e fz)]; exact e, fun c o xs e => by rw [upd_ne (ne_of_none e fz)]; exact e, fun c ps e => ⟨#[], by rw [upd_ne (ne_of_none e fz), e]; simp⟩⟩
      have hok : HOk X.prog X.w (upd H s.heap.objs.size (.tup [x, y])) h'' := fun c o e => by
        by_cases hcs : c = s.heap.objs.size
        · subst hcs
          rw [upd_same] at e
          cases e
          exact ⟨by show 2 ≤ sizeLine; decide, [u, u'], .cons ru (.cons ru' .nil), ⟨_, tp, rfl, _, rfl⟩⟩
        · rw [upd_ne hcs] at e
          refine (I.hok c o e).stay (fun d w' hd q => kp2 d w' (fun zz => ?_) q) (fun d q => ?_) fun d w' q => ?_
          · have hn := notH d zz
            rcases hd with rfl | hd
            · rw [hn] at e; cases e
            · rw [hn] at hd; cases hd
          · rw [upd_ne (ne_of_none q fz)]; exact q
          · rw [upd_ne (ne_of_none q fz)]; exact q
      have hch : ∀ b ∈ [z, TI, TO, i, j], (b ∈ X.ex ∨ X.s₀.heap.objs.size ≤ b) ∧ b ≠ X.env.locals ∧ (∀ x c, X.env.cells.lookup x = some c → c ≠ b) ∧ ∀ p ∈ X.pn ++ pins, p.1 ≠ b := fun b hb => ⟨(hf b hb).2.2.2.1, (hf b hb).2.1, (hf b hb).2.2.2.2.1, (hf b hb).2.2.2.2.2⟩
      refine I.step (g' := s.gens) (d' := s.drawn) (t' := s.toks) (ch := [z, TI, TO, i, j]) hch (fun c o _ _ hc' e _ => kp2 c o hc' e) (fun c o _ _ hc' e _ => ⟨o.slots, kp2 c o hc' e⟩) (fun c o hc' e n => un.free c o e n hc') (fun c o hc' e => un.there c o e hc') un.tups un.frzs un.tbls (fun m' hm' => ?_) hok I.bare
      obtain ⟨o, es', ep, ho, r⟩ := hm'
      exact ⟨o, es', ep, kp2 _ o (fun zz => (hf _ zz).2.1 rfl) ho, r⟩
    refine ⟨.ref s.heap.objs.size, _, I1, rfl, ⟨s.heap.objs.size, x, y, rfl, fz, rfl, fun xs' q => by rw [I.sqk_inj q hl]; exact hx, fun ys' q => by rw [I.sqk_inj q hm]; exact hy⟩, ?_, fun c hc' => ?_⟩
    · have up : ∀ c o, c ≠ z → h'.get? c = some o → h''.get? c = some o := fun c o hc' e => sb.extBut _ _ hc' e
      exact ⟨y1, up _ _ a1 (kp _ _ a1 a5 a6 a7 h1), ⟨_, _, up _ _ a2 z2⟩, (v1 _ _ z3).at fun o e => up _ o a3 e, (v2 _ _ z4).at fun o e => up _ o a4 e⟩
    · rw [upd_ne (mine c hc')]
      exact notH c hc'
  done := by
    intro X hP hw hK hc k pins s σ H E I hf st hg
    subst hP hw hK
    obtain ⟨xs, ys, hl, hm, hend⟩ := hg
    obtain ⟨hz, h1, ⟨a, b, h2⟩, h3, h4⟩ := st
    have cl := c1
    have cm := c2
    simp only [List.mem_cons, List.not_mem_nil, or_false, not_or] at c1 c2
    obtain ⟨its, r1, _, n1⟩ := I.sqk hl
    obtain ⟨jts, r2, _, n2⟩ := I.sqk hm
    obtain ⟨p1, N1, u1, v1⟩ := n1 i c1.2.2.2.1
    obtain ⟨p2, N2, u2, v2⟩ := n2 j c2.2.2.2.2
    have D : [z, TI, TO, i, j].Nodup := by simp [a1, a2, a3, a4, a5, a6, a7, a8, a9, b1, Ne.symm a1, Ne.symm a2, Ne.symm a3, Ne.symm a4]
    refine zip_done (I.ok.hd hc) D cl cm N1 N2 hz h1 h2 (u1 k h3) (u2 k h4) (hend.elim (fun q => .inl (by simpa using r1.none_of q)) fun q => .inr (by simpa using r2.none_of q)) fun h' kp => ⟨rfl, ?_⟩
    have kp2 : ∀ c o, c ∉ [z, TI, TO, i, j] → s.heap.get? c = some o → h'.get? c = some o := fun c o hc' e => by
      simp only [List.mem_cons, List.not_mem_nil, or_false, not_or] at hc'
      exact kp c o hc'.1 hc'.2.2.1 hc'.2.2.2.1 hc'.2.2.2.2 e
    have hch : ∀ b ∈ [z, TI, TO, i, j], (b ∈ X.ex ∨ X.s₀.heap.objs.size ≤ b) ∧ b ≠ X.env.locals ∧ (∀ x c, X.env.cells.lookup x = some c → c ≠ b) ∧ ∀ p ∈ X.pn ++ pins, p.1 ≠ b := fun b hb => ⟨(hf b hb).2.2.2.1, (hf b hb).2.1, (hf b hb).2.2.2.2.1, (hf b hb).2.2.2.2.2⟩
    refine I.step (g' := s.gens) (d' := s.drawn) (t' := s.toks) (ch := [z, TI, TO, i, j]) hch (fun c o _ _ hc' e _ => kp2 c o hc' e) (fun c o _ _ hc' e _ => ⟨o.slots, kp2 c o hc' e⟩) (fun _ _ _ _ n => n) (fun c o hc' e => ⟨o, kp2 c o hc' e⟩) (fun _ _ e => e) (fun _ _ _ e => e) (fun b ps e => ⟨#[], by rw [e]; simp⟩) (fun m' hm' => ?_) (fun c o e => ?_) I.bare
    · obtain ⟨o, es', ep, ho, r⟩ := hm'
      exact ⟨o, es', ep, kp2 _ o (fun zz => (hf _ zz).2.1 rfl) ho, r⟩
    · refine (I.hok c o e).stay (fun d w' hd q => kp2 d w' (fun zz => ?_) q) (fun _ q => q) fun _ _ q => q
      have hn := (hf d zz).1
      rcases hd with rfl | hd
      · rw [hn] at e; cases e
      · rw [hn] at hd; cases hd
  self := fun A k s Q E st h => wpAny_pyIter_zip st.1 h
end L2
end
section
/-! zip(a, b) made. -/
namespace L2
open PySem PySem.Spec PyProof.Rows
set_option maxHeartbeats 4000000
set_option maxRecDepth 100000
set_option Elab.async false
set_option linter.unusedVariables false
/-- zip.__new__ of two tuples, walked: two iterators, two pairs, the zip -/
theorem tz_new (l m : Addr) (xs ys : Array Value) : Meets (Builtin.«zip.__new__» ⟨[.type "zip", .ref l, .ref m], []⟩) (fun _ R s => s.heap.IsTuple l xs ∧ s.heap.IsTuple m ys ∧
      ∀ h' : Heap, IsZip h' (s.heap.objs.size + 4) (s.heap.objs.size + 2) (s.heap.objs.size + 3) .none → IsPair h' (s.heap.objs.size + 2) (.ref s.heap.objs.size) (.ref (s.heap.objs.size + 1)) →
        IsPair h' (s.heap.objs.size + 3) .none .none → h'.IsTupleIter s.heap.objs.size l 0 → h'.IsTupleIter (s.heap.objs.size + 1) m 0 → (∀ c o, s.heap.get? c = some o → h'.get? c = some o) →
        R (.ok (.ret (.ref (s.heap.objs.size + 4)))) { s with heap := h' }) :=
  .of_wp fun prog w A R s h => by
    obtain ⟨hp, g, d, tk, os⟩ := s
    obtain ⟨h1, h2, h⟩ := h
    have hsub := sub_zip
    wp_walk using wpAny_pyIter_tuple h1, wpAny_pyIter_tuple (Heap.IsTuple.push h2 _)
    simp only [Heap.size_push]
    refine ⟨_, rfl, h _ (Heap.get?_push_at (by simp only [Heap.size_push]) rfl) ?_ ?_ ?_ ?_ fun c o x => ?_⟩
    · exact Heap.get?_push_of_some _ (Heap.get?_push_of_some _ (Heap.get?_push_at (by simp only [Heap.size_push]) rfl))
    · exact Heap.get?_push_of_some _ (Heap.get?_push_at (by simp only [Heap.size_push]) rfl)
    · exact ⟨_, Heap.get?_push_of_some _ (Heap.get?_push_of_some _ (Heap.get?_push_of_some _ (Heap.get?_push_of_some _ (Heap.get?_push_size _ rfl)))), rfl, rfl⟩
    · exact ⟨_, Heap.get?_push_of_some _ (Heap.get?_push_of_some _ (Heap.get?_push_of_some _ (Heap.get?_push_at (by simp only [Heap.size_push]) rfl))), rfl, rfl⟩
    repeat (first | exact x | refine Heap.get?_push_of_some _ ?_)
section
variable {prog : Program} {w : World} {A : Around} {E : Value → Shared → Prop} {s : Shared}
theorem zip_tups {l m : Addr} {xs ys : Array Value} {Q : Value → Shared → Prop} (h1 : s.heap.IsTuple l xs) (h2 : s.heap.IsTuple m ys)
    (h : ∀ h', IsZip h' (s.heap.objs.size + 4) (s.heap.objs.size + 2) (s.heap.objs.size + 3) .none → IsPair h' (s.heap.objs.size + 2) (.ref s.heap.objs.size) (.ref (s.heap.objs.size + 1)) →
      IsPair h' (s.heap.objs.size + 3) .none .none → h'.IsTupleIter s.heap.objs.size l 0 → h'.IsTupleIter (s.heap.objs.size + 1) m 0 →
      (∀ c o, s.heap.get? c = some o → h'.get? c = some o) → Q (.ref (s.heap.objs.size + 4)) { s with heap := h' }) :
    wpAny (model prog w) A (call (.type "zip") [.ref l, .ref m]) Q E s :=
  callType_new F.called_zip (by decide) (F.typeCall_zip_2 _ _) (F.newCall_zip_2 _ _) (fun obj => F.args_object_init_3 obj _ _) F.entry_zip_new (tz_new l m xs ys)
    ⟨h1, h2, fun h' z p1 p2 i1 i2 kp => ⟨⟨_, z, rfl⟩, h h' z p1 p2 i1 i2 kp⟩⟩
end
theorem apart_nat (n : Nat) {a b : Nat} (h : a ≠ b) : n + a ≠ n + b := fun z => h (Nat.add_left_cancel z)
theorem not_fresh5 {n c : Nat} (h : c < n) (z : c = n + 4 ∨ c = n + 2 ∨ c = n + 3 ∨ c = n ∨ c = n + 1) : False := by omega
theorem fresh5 {n c : Nat} (z : c = n + 4 ∨ c = n + 2 ∨ c = n + 3 ∨ c = n ∨ c = n + 1) : n ≤ c := by omega
section
variable {X : Cx}
noncomputable def iZip (t : Bool) (K : PySem.W.Frag) (ta : TA) : TI := fun σ H R => ta σ H fun vs H1 => ∃ l m xs ys, vs = [.ref l, .ref m] ∧ SqK t K H1 l xs ∧ SqK t K H1 m ys ∧ R (Itz t K l m) H1
theorem pi_zip (t : Bool) {es : List Expr} {k0 : Nat} {tp : Pos} {a b : Expr} {ta : TA} {p pos : Pos} (hg : Gl X "zip") (hm : X.mg "zip" = none) (ha : PA X [a, b] ta) (hs : starEach [a, b] X.env = [(false, eval a X.env), (false, eval b X.env)] := by rfl) (hs2 : starEach [b] X.env = [(false, eval b X.env)] := by rfl) :
    PI X (.Tuple es k0 tp) (.Call (.Name "zip" p) [a, b] [] pos) (iZip t X.K ta) := by
  intro pins s σ H R I h
  refine Call_ (ld_blt I hg hm boot_zip (PyProof.Rows.callWith_type1 (thn (ha pos pins s σ H _ I h) fun us s1 ⟨vs, H1, I1, r1, q1⟩ => ?_) (by rw [hs, hs2]) (by rw [hs2]; rfl)))
  obtain ⟨l, m, xs, ys, e, hl, hm', q⟩ := q1
  subst e
  obtain ⟨u, u', rfl, ru, ru'⟩ := vals2 r1
  cases (show u = Value.ref l from ru)
  cases (show u' = Value.ref m from ru')
  obtain ⟨its, _, ⟨ol, eol, _⟩, _⟩ := I1.sqk hl
  obtain ⟨jts, _, ⟨om, eom, _⟩, _⟩ := I1.sqk hm'
  have ll : l < s1.heap.objs.size := Heap.lt_size eol
  have lm : m < s1.heap.objs.size := Heap.lt_size eom
  have fin : ∀ h' : Heap, IsZip h' (s1.heap.objs.size + 4) (s1.heap.objs.size + 2) (s1.heap.objs.size + 3) .none → IsPair h' (s1.heap.objs.size + 2) (.ref s1.heap.objs.size) (.ref (s1.heap.objs.size + 1)) →
      IsPair h' (s1.heap.objs.size + 3) .none .none → ItAt t s1.heap.objs.size l 0 h' → ItAt t (s1.heap.objs.size + 1) m 0 h' → (∀ c o, s1.heap.get? c = some o → h'.get? c = some o) →
      wpAny (model X.prog X.w) X.A (pyIter (.ref (s1.heap.objs.size + 4))) (PIE X pins σ (.Tuple es k0 tp) R) X.xe { s1 with heap := h' } := fun h' z1 z2 z3 z4 z5 kp => by
    have I2 : Inv X pins σ H1 { s1 with heap := h' } := I1.kept (t' := s1.toks) kp
    refine wpAny_pyIter_zip z1 ⟨s1.heap.objs.size + 4, [s1.heap.objs.size + 4, s1.heap.objs.size + 2, s1.heap.objs.size + 3, s1.heap.objs.size, s1.heap.objs.size + 1], _, _, H1, rfl, I2,
      turn_zip (t := t) (l := l) (m := m) (apart_nat _ (a := 2) (b := 4) (by decide)) (apart_nat _ (a := 3) (b := 4) (by decide)) (apart_nat _ (a := 0) (b := 4) (by decide)) (apart_nat _ (a := 1) (b := 4) (by decide)) (apart_nat _ (a := 2) (b := 3) (by decide)) (apart_nat _ (a := 2) (b := 0) (by decide)) (apart_nat _ (a := 2) (b := 1) (by decide)) (apart_nat _ (a := 3) (b := 0) (by decide)) (apart_nat _ (a := 3) (b := 1) (by decide)) (apart_nat _ (a := 0) (b := 1) (by decide)) (fun z => ?_) (fun z => ?_), ⟨z1, z2, ⟨_, _, z3⟩, z4, z5⟩, fun c hc => ?_, q⟩
    · simp only [List.mem_cons, List.not_mem_nil, or_false] at z; exact not_fresh5 ll z
    · simp only [List.mem_cons, List.not_mem_nil, or_false] at z; exact not_fresh5 lm z
    · have hcs : s1.heap.objs.size ≤ c := by simp only [List.mem_cons, List.not_mem_nil, or_false] at hc; exact fresh5 hc
      exact I1.fpOk hcs (I1.hok.fresh hcs)
  cases t
  · obtain ⟨its, _, pl, _⟩ := I1.list (show SqL X.K H1 l xs from hl)
    obtain ⟨jts, _, pm, _⟩ := I1.list (show SqL X.K H1 m ys from hm')
    exact call_zip_2 pl.isList pm.isList fun h' z1 z2 z3 z4 z5 _ kp => fin h' z1 z2 z3 z4 z5 kp
  · obtain ⟨its, _, pl, _⟩ := I1.tuple (show SqT X.K H1 l xs from hl)
    obtain ⟨jts, _, pm, _⟩ := I1.tuple (show SqT X.K H1 m ys from hm')
    exact zip_tups pl pm fun h' z1 z2 z3 z4 z5 kp => fin h' z1 z2 z3 z4 z5 kp
end
end L2
end
section
/-! SHORT WORDS for a whole text: own defs by name, built-ins by name. -/
namespace L2
open PySem PySem.Spec PyProof.Rows
set_option maxHeartbeats 4000000
set_option Elab.async false
set_option linter.unusedVariables false
/-- the def x keeps sp with k calls left -/
noncomputable def Has (P : Program) (w : World) (K : PySem.W.Frag) (mg : Str → Option Value) (base : Heap) (k : Nat) (x : Str) (ps : List Str) (sp : Sp) : Prop :=
  ∃ (f : Addr) (fd : FuncData), FnOk P w K mg base CX0 k f fd ps sp ∧ mg x = some (.ref f) ∧ PySem.W.keepIn K (.ref f) = true ∧ Binds K fd ps []
section
variable {X : Cx} {k k' : Nat} {x : Str} {ps : List Str} {sp : Sp} {e : Expr} {es : List Expr} {t : TA} {p pos : Pos}
theorem pe_def (h : Has X.prog X.w X.K X.mg X.base k x ps sp) (hr : Room k' X.A) (ha : PA X (e :: es) t) (hg : Gl X x := by rfl) (hk : k ≤ k' := by decide) (hdb : (x == ("__debug__" : Str)) = false := by decide)
    (he : starEach (e :: es) X.env = (false, eval e X.env) :: starEach es X.env := by rfl) (hpl : (backTo pos (starEach es X.env)).any (·.1) = false := by rfl) : PE X (.Call (.Name x p) (e :: es) [] pos) (tCall sp [] E0 t) := by
  obtain ⟨f, fd, F, m, kp, b⟩ := h
  exact pe_call F (hr.mono hk) hg m kp b .nil pass0 ha hdb he hpl
/-- a constant of the module -/
theorem pe_const {v : V} (h : ∃ u, X.mg x = some u ∧ RelV v u) (hg : Gl X x := by rfl) (hd : (x == ("__debug__" : Str)) = false := by decide) : PE X (.Name x pos) (tC v) := by
  obtain ⟨u, m, r⟩ := h
  exact pe_glob hg m r hd
/-- a built-in type as a value -/
theorem pe_ty {T : String} (hm : X.mg x = none) (hv : bootBuiltins x = some (.type T)) (hg : Gl X x := by rfl) (hn : x ≠ "__name__" := by decide) (hd : (x == ("__debug__" : Str)) = false := by decide) : PE X (.Name x pos) (tC (.ty T)) := pe_bltn hg hm hv rfl hn hd
end
/-- the built-ins that a text uses are no names of its own -/
structure Nb (mg : Str → Option Value) : Prop where
  len : mg "len" = none
  isi : mg "isinstance" = none
  bool : mg "bool" = none
  int : mg "int" = none
  tuple : mg "tuple" = none
  list : mg "list" = none
  range : mg "range" = none
  zip : mg "zip" = none
  all : mg "all" = none
  max : mg "max" = none
  min : mg "min" = none
end L2
end
section
/-! A comprehension without tests whose elements only add to the heap. -/
namespace L2
open PySem PySem.Spec PyProof.Rows
set_option maxHeartbeats 4000000
set_option Elab.async false
set_option linter.unusedVariables false
theorem Same.upd_free {H1 H5 : Hp} {D : Addr} (s : Same H1 H5) (hD : H1 D = none) (o : HO) : Same H1 (upd H5 D o) := fun b u q => by rw [upd_ne (ne_of_none q hD)]; exact s b u q
theorem comp_go {J : It} {g : TG} {te : TE} {Q : VK} {D : Addr} {H1 : Hp} {σ0 : St} (n : Nat) (hn : n ≤ sizeLine) (f : Nat → V) (Sg : St → Prop) (itm : Nat → Hp → V → Prop) (hD : H1 D = none) (s0 : Sg σ0)
    (items : ∀ i H, Same H1 H → (i < n → J.go i H ∧ ∀ x H2, J.yld i H x H2 → Same H H2 ∧ itm i H2 x) ∧ (n ≤ i → J.stop i H))
    (step : ∀ i x σ' H, i < n → Same H1 H → itm i H x → Sg σ' → ∀ R : St → V → Hp → Prop, (∀ σ3 y H5, Sg σ3 → Same H H5 → y = f i → R σ3 y H5) → g x σ' H fun σ3 H3 => te σ3 H3 (R σ3))
    (fin : ∀ H', Same H1 H' → H' D = some (.lst ((List.range n).map f)) → Q (.ref D) H') :
    cmpW J g tYes te Q D σ0 H1 := by
  refine ⟨fun i m σ H => m = n - i ∧ i ≤ n ∧ Sg σ ∧ Same H1 H ∧ H D = some (.lst ((List.range i).map f)), ⟨n, by omega, Nat.zero_le _, s0, (Same.refl H1).upd_free hD _, upd_same⟩, ?_⟩
  rintro i m σ H ⟨rfl, hi, hs, sm, hd⟩
  by_cases hlt : i < n
  · obtain ⟨go, yl⟩ := (items i H sm).1 hlt
    refine .inr ⟨go, fun x H2 y => ?_⟩
    obtain ⟨s2, im⟩ := yl x H2 y
    have e : (fun (σ3 : St) (H3 : Hp) => tYes σ3 H3 fun ok H4 =>
        if ok = true then te σ3 H4 fun y H5 => ∃ ys, H5 D = some (.lst ys) ∧ ys.length < sizeLine ∧ ∃ m', m' < n - i ∧ (m' = n - (i + 1) ∧ i + 1 ≤ n ∧ Sg σ3 ∧ Same H1 (upd H5 D (.lst (ys ++ [y]))) ∧ upd H5 D (.lst (ys ++ [y])) D = some (.lst ((List.range (i + 1)).map f)))
        else ∃ m', m' < n - i ∧ (m' = n - (i + 1) ∧ i + 1 ≤ n ∧ Sg σ3 ∧ Same H1 H4 ∧ H4 D = some (.lst ((List.range (i + 1)).map f)))) =
        fun σ3 H3 => te σ3 H3 fun y H5 => ∃ ys, H5 D = some (.lst ys) ∧ ys.length < sizeLine ∧ ∃ m', m' < n - i ∧ (m' = n - (i + 1) ∧ i + 1 ≤ n ∧ Sg σ3 ∧ Same H1 (upd H5 D (.lst (ys ++ [y]))) ∧ upd H5 D (.lst (ys ++ [y])) D = some (.lst ((List.range (i + 1)).map f))) := by
      funext σ3 H3
      unfold tYes
      dsimp only
      rw [if_pos rfl]
    rw [e]
    refine step i x σ H2 hlt (sm.trans s2) im hs _ fun σ3 y H5 g3 s5 ey => ?_
    refine ⟨_, s5 _ _ (s2 _ _ hd), by rw [List.length_map, List.length_range]; omega, n - (i + 1), by omega, rfl, by omega, g3, (sm.trans (s2.trans s5)).upd_free hD _, ?_⟩
    rw [upd_same, ey, List.range_succ, List.map_append]
    rfl
  · have e : i = n := by omega
    subst e
    exact .inl ⟨(items i H sm).2 (Nat.le_refl _), fin H sm hd⟩
/-- over a tracked tuple -/
theorem items_tup {K : PySem.W.Frag} {a : Addr} {xs : List V} {H1 : Hp} (h : H1 a = some (.tup xs)) (i : Nat) (H : Hp) (s : Same H1 H) :
    (i < xs.length → (Itt K a).go i H ∧ ∀ x H2, (Itt K a).yld i H x H2 → Same H H2 ∧ xs[i]? = some x) ∧ (xs.length ≤ i → (Itt K a).stop i H) := by
  have q : SqT K H a xs := SqT.of (s _ _ h)
  refine ⟨fun hi => ⟨⟨xs, xs[i], q, List.getElem?_eq_getElem hi⟩, fun x H2 ⟨e, y⟩ => ?_⟩, fun hi => ⟨xs, q, hi⟩⟩
  subst e
  exact ⟨Same.refl _, y xs q⟩
theorem items_lst {K : PySem.W.Frag} {a : Addr} {xs : List V} {H1 : Hp} (h : H1 a = some (.lst xs)) (i : Nat) (H : Hp) (s : Same H1 H) :
    (i < xs.length → (Itl K a).go i H ∧ ∀ x H2, (Itl K a).yld i H x H2 → Same H H2 ∧ xs[i]? = some x) ∧ (xs.length ≤ i → (Itl K a).stop i H) := by
  have q : SqL K H a xs := SqL.of (s _ _ h)
  refine ⟨fun hi => ⟨⟨xs, xs[i], q, List.getElem?_eq_getElem hi⟩, fun x H2 ⟨e, y⟩ => ?_⟩, fun hi => ⟨xs, q, hi⟩⟩
  subst e
  exact ⟨Same.refl _, y xs q⟩
end L2
end
section
/-! Comprehensions with a name, with a pair of names as target. -/
namespace L2
open PySem PySem.Spec PyProof.Rows
set_option maxHeartbeats 4000000
set_option Elab.async false
set_option linter.unusedVariables false
section
variable {X : Cx} {elt iter : Expr} {ifs : List Expr} {scope : Scope} {pos : Pos} {N : List Str} {js : List Nat} {sc : Scope} {N0 : List Str} {wi : TI} {tt : TT} {te : TE} {x y : Str} {px py tp : Pos} {k : Nat}
theorem blk_loc {cl : List (Str × Addr)} {C : Addr} {s : Shared} {H : Hp} {fp : List Addr} (h : scope.names.lookup x = some .local) : (blk X N scope cl C s H fp).env.scope.names.lookup x = some .local := lookup_relabel_local h
theorem pe_comp1 (hc : X.calm = true) (hsc : X.env.scope = sc) (hN : X.N = N0) (B : Blk sc N0 (x :: N) 1 js scope) (hx : scope.names.lookup x = some .local) (hi : PI X (.Name x px) iter wi)
    (ht : ∀ cl C s H fp, PTs (blk X (x :: N) scope cl C s H fp) ifs tt) (he : ∀ cl C s H fp, PE (blk X (x :: N) scope cl C s H fp) elt te)
    (hs : ∀ x, foldedSetIterable iter X.env x = pure x := by intro _; rfl) : PE X (.ListComp elt [⟨.Name x px, iter, ifs, 0⟩] scope pos) (tComp 1 js wi (gName 0) tt te) :=
  pe_comp hc hsc hN B hi (fun cl C s H fp => pg_name (i := 0) B.nd rfl (.inl (blk_loc hx)) (.inr (blk_loc hx))) ht he hs
theorem pe_comp2 (hc : X.calm = true) (hsc : X.env.scope = sc) (hN : X.N = N0) (B : Blk sc N0 (x :: y :: N) 2 js scope) (hx : scope.names.lookup x = some .local) (hy : scope.names.lookup y = some .local) (hi : PI X (.Tuple [.Name x px, .Name y py] k tp) iter wi)
    (ht : ∀ cl C s H fp, PTs (blk X (x :: y :: N) scope cl C s H fp) ifs tt) (he : ∀ cl C s H fp, PE (blk X (x :: y :: N) scope cl C s H fp) elt te)
    (hs : ∀ x, foldedSetIterable iter X.env x = pure x := by intro _; rfl) : PE X (.ListComp elt [⟨.Tuple [.Name x px, .Name y py] k tp, iter, ifs, 0⟩] scope pos) (tComp 2 js wi (gTup X.K 2 (gCons (gName 0) (gCons (gName 1) gNil))) tt te) :=
  pe_comp hc hsc hN B hi (fun cl C s H fp => pg_tup (X := blk X (x :: y :: N) scope cl C s H fp) hc (pgs_cons (pg_name (i := 0) B.nd rfl (.inl (blk_loc hx)) (.inr (blk_loc hx))) (pgs_cons (pg_name (i := 1) B.nd rfl (.inl (blk_loc hy)) (.inr (blk_loc hy))) pgs_nil))) ht he hs
end
end L2
end
section
/-! LONG DISPLAYS: the judgement in a box that is not looked into while it is put together. -/
namespace L2
open PySem PySem.Spec PyProof.Rows
set_option maxHeartbeats 4000000
set_option Elab.async false
set_option linter.unusedVariables false
structure SA (X : Cx) (es : List Expr) (t : TA) : Prop where
  get : PA X es t
structure SE (X : Cx) (e : Expr) (t : TE) : Prop where
  get : PE X e t
section
variable {X : Cx} {e : Expr} {es : List Expr} {te : TE} {t : TA} {pos : Pos}
end
end L2
end
section
/-! reversed(t) of a tuple: what the tables say of the type `reversed`. -/
namespace L2
open PySem PySem.Spec PyProof.Rows
set_option maxHeartbeats 4000000
set_option maxRecDepth 100000
set_option Elab.async false
set_option linter.unusedVariables false
theorem lookup_by {T : String} {n : Str} {r : Option Value} (h : fastLookup T n = some r) : typeLookup (.type T) n = pure r := by rw [typeLookup_type, builtinLookup_eq_fast, h]
/-- a special method of a type that is found in the tables -/
theorem slot_by {T id owner n : String} {mro : List Value} (found : fastLookup T (Str.ofString n) = some (some (.builtin id))) (above : fastBuiltinMro T = some mro) (mine : mro.contains (.type owner) = true)
    (named : splitId id = some (owner, n) ∧ withoutEnding? id "#opaque" = none ∧ withoutEnding? id "#data" = none ∧ plainId id = true)
    (kind : (Manifest.find? owner).bind (·.attrs.lookup n) = some .slot ∨ (Manifest.find? owner).bind (·.attrs.lookup n) = some .method) : Slot T (Str.ofString n) id :=
  .of (lookup_by found) named.1 named.2.1 named.2.2.1 kind (by rw [isSubtype_type, above]; exact congrArg pure mine) named.2.2.2
theorem rv_init : Slot "reversed" (Str.ofString "__init__") "object.__init__" := slot_by (mro := [.type "reversed", .type "object"]) (owner := "object") (by kernel_rfl) (by kernel_rfl) (by kernel_rfl) (by decide +kernel) (.inl (by decide +kernel))
theorem rv_iter : Slot "reversed" (Str.ofString "__iter__") "reversed.__iter__" := slot_by (mro := [.type "reversed", .type "object"]) (owner := "reversed") (by kernel_rfl) (by kernel_rfl) (by kernel_rfl) (by decide +kernel) (.inl (by decide +kernel))
theorem rv_next : Slot "reversed" (Str.ofString "__next__") "reversed.__next__" := slot_by (mro := [.type "reversed", .type "object"]) (owner := "reversed") (by kernel_rfl) (by kernel_rfl) (by kernel_rfl) (by decide +kernel) (.inl (by decide +kernel))
theorem rv_called : TypeCalled "reversed" "reversed.__new__" "object.__init__" :=
  { (by constructor <;> first | exact ⟨_, _, F.mro_reversed⟩ | exact F.made_reversed | exact rv_init | decide +kernel | (rw [isSubtype_type]; kernel_rfl) : TypeCalled "reversed" "reversed.__new__" "object.__init__") with }
theorem rv_entry_iter : entryFor table "reversed.__iter__" = some Builtin.«dict_keyiterator.__iter__» :=
  entryFor_alias (id' := "dict_keyiterator.__iter__") (by kernel_rfl) (by first | rfl | decide +kernel) (by decide +kernel) (by kernel_rfl)
theorem rv_entry_next : entryFor table "reversed.__next__" = some Builtin.«reversed.__next__» := entryFor_of_tree (by kernel_rfl)
/-- the tables' row of a method, by the backward spelling that the table asks -/
theorem args_by {id : String} {v : List Value} {n o : List Char} {rows : List (String × Manifest.Signature)} (cut : ((id.toList.map fun c => if c.isAlphanum || c == '_' || c == '.' then c else '_').reverse.span (· != '.')) = (n, '.' :: o))
    (own : Manifest.owners.lookup (String.ofList o.reverse) = some rows) (ok : ∀ sg, Manifest.signature? id = rows.lookup (String.ofList n.reverse) → sg = rows.lookup (String.ofList n.reverse) → argsOk id ⟨v, []⟩) : argsOk id ⟨v, []⟩ :=
  ok _ (signature?_of cut own) rfl
theorem rv_args_next (a : Value) : argsOk "reversed.__next__" ⟨[a], []⟩ :=
  args_by (n := "__txen__".toList) (o := "desrever".toList) (rows := Manifest.sig_reversed) (by kernel_rfl) (by kernel_rfl) fun _ e _ => by unfold argsOk; rw [e]; kernel_rfl
theorem rv_args_iter (a : Value) : argsOk "reversed.__iter__" ⟨[a], []⟩ :=
  args_by (n := "__reti__".toList) (o := "desrever".toList) (rows := Manifest.sig_reversed) (by kernel_rfl) (by kernel_rfl) fun _ e _ => by unfold argsOk; rw [e]; kernel_rfl
theorem rv_init_args (a b : Value) : argsOk "object.__init__" ⟨[a, b], []⟩ := F.args_object_init_2 a b
theorem tup_norev : typeLookup (.type "tuple") "__reversed__" = pure none := lookup_by (by kernel_rfl)
theorem tup_notdict : isSubtype (.type "tuple") (.type "dict") = pure false := by rw [isSubtype_type]; exact congrArg pure (show _ = false from by kernel_rfl)
noncomputable abbrev IsRv (h : Heap) (z t : Addr) (i : Int) : Prop := h.get? z = some { cls := .type "reversed", dict := none, data := .fields #[.ref t, rawInt i], slots := #[] }
end L2
end
section
namespace L2
open PySem PySem.Spec PyProof.Rows
set_option maxHeartbeats 4000000
set_option maxRecDepth 100000
set_option Elab.async false
set_option linter.unusedVariables false
theorem rv_new (t : Addr) (xs : Array Value) (hz : (xs.size : Int) < 2 ^ 63) : Meets (Builtin.«reversed.__new__» ⟨[.type "reversed", .ref t], []⟩) (fun _ R s => IsTup s.heap t xs ∧
      R (.ok (.ret (.ref s.heap.objs.size))) { s with heap := s.heap.push { cls := .type "reversed", data := .fields #[.ref t, rawInt ((xs.size : Int) - 1)] }, toks := s.toks + 1 + 1 }) :=
  .of_wp fun prog w A R s h => by
    obtain ⟨hp, g, d, tk, os⟩ := s
    obtain ⟨h1, h⟩ := h
    have hT : Shared.TypeIs ⟨hp, g, d, tk, os⟩ (.ref t) "tuple" := h1.typeIs
    have hsub := F.sub_reversed_self
    have hnr := tup_norev
    have k1 : Heap.IsTuple (Shared.heap ⟨hp, g, d, tk, os⟩) t xs := h1
    have hnd := tup_notdict
    have hgi : typeLookup (.type "tuple") "__getitem__" = pure (some (.builtin "tuple.__getitem__")) := slot_tuple_getitem.lookup
    wp_walk using len_tuple h1 hz
    exact ⟨_, rfl, h⟩
section
variable {prog : Program} {w : World} {A : Around} {E : Value → Shared → Prop}
/-- one more item, from the end; the code walked -/
theorem rv_item {z t : Addr} {i : Nat} {xs : Array Value} {x : Value} {Q : Value → Shared → Prop} {s : Shared} (hz : IsRv s.heap z t (i : Int)) (ht : IsTup s.heap t xs) (hl : (xs.size : Int) < 2 ^ 63) (hx : xs[i]? = some x)
    (q : ∀ h' tk, IsRv h' z t ((i : Int) - 1) → Heap.SameBut z s.heap h' → Q x { s with heap := h', toks := tk }) :
    wpAny (model prog w) A (Builtin.«reversed.__next__» ⟨[.ref z], []⟩) (fun fin s' => ∃ v, fin = .done (.ret v) ∧ Q v s') E s := by
  obtain ⟨hp, g, d, tk, os⟩ := s
  have f1 : typeLookup (.type "tuple") "__getitem__" = pure (some (.builtin "tuple.__getitem__")) := slot_tuple_getitem.lookup
  have lt : i < xs.size := (Array.getElem?_eq_some_iff.mp hx).1
  have neg : ¬ (i : Int) < 0 := by omega
  obtain ⟨⟨c, dc, dt, sl⟩, ho, hc, n, hd⟩ := id ht
  simp only at hc hd
  subst hc hd
  simp only at ho
  have lo : -(2 ^ 63) ≤ (i : Int) := by omega
  have ht' : IsTup hp t xs := ht
  have hi : (i : Int) < 2 ^ 63 := by omega
  have at_ : seqIndex? (i : Int) xs.size = some i := by unfold seqIndex?; simp; omega
  have gi : ∀ {Q : Value → Shared → Prop} {E : Value → Shared → Prop}, Q x ⟨hp, g, d, tk + 1, os⟩ → wpAny (model prog w) A (getItem (#[Value.ref t, rawInt (i : Int)][0]'(Nat.zero_lt_succ 1)) (.int i tk)) Q E ⟨hp, g, d, tk + 1, os⟩ := fun r => by
    show wpAny (model prog w) A (getItem (.ref t) (.int i tk)) _ _ _
    refine getItem_tuple (items := xs) (j := i) (x := x) ?_ lo ?_ ?_ ?_ ?_
    · exact ht
    · exact hi
    · exact at_
    · exact hx
    · exact r
  wp_walk using gi
  exact ⟨_, rfl, q _ _ (Heap.get?_update_self _ hz rfl) (.update ..)⟩
/-- no more items -/
theorem rv_end {z t : Addr} {i : Int} {Q : PySem.Fin → Shared → Prop} {s : Shared} (hh : A.handled = none) (hz : IsRv s.heap z t i) (hi : i < 0)
    (hE : ∀ h' e, (∀ c o, c ≠ z → s.heap.get? c = some o → h'.get? c = some o) → (∃ o, h'.get? e = some o ∧ o.cls = .type "StopIteration") → E (.ref e) { s with heap := h' }) :
    wpAny (model prog w) A (Builtin.«reversed.__next__» ⟨[.ref z], []⟩) Q E s := by
  obtain ⟨hp, g, d, tk, os⟩ := s
  wp_walk
  exact wpAny_raiseNew_none hh (hE _ _ (fun c o n e => by repeat (first | exact e | refine Heap.get?_update_of_ne _ (Ne.symm n) ?_ | refine Heap.get?_push_of_some _ ?_)) ⟨_, Heap.get?_push_size _ rfl, rfl⟩)
theorem rv_pyNext {z t : Addr} {i : Nat} {xs : Array Value} {x : Value} {Q : Option Value → Shared → Prop} {s : Shared} (hz : IsRv s.heap z t (i : Int)) (ht : IsTup s.heap t xs) (hl : (xs.size : Int) < 2 ^ 63) (hx : xs[i]? = some x)
    (q : ∀ h' tk, IsRv h' z t ((i : Int) - 1) → Heap.SameBut z s.heap h' → Q (some x) { s with heap := h', toks := tk }) : wpAny (model prog w) A (pyNext (.ref z)) Q E s := by
  have hT : s.TypeIs (.ref z) "reversed" := ⟨_, hz, rfl⟩
  unfold pyNext
  exact wpAny_bind (wpAny_attempt (wpAny_callSpecial?_slot (name := Str.ofString "__next__") hT rv_next
    (wpAny_call_entry rv_next hT rv_entry_next (rv_item hz ht hl hx fun h' tk a1 a2 => wpAny_pure (q h' tk a1 a2)) (rv_args_next _))))
theorem rv_pyEnd {z t : Addr} {i : Int} {Q : Option Value → Shared → Prop} {s : Shared} (hh : A.handled = none) (hz : IsRv s.heap z t i) (hi : i < 0)
    (q : ∀ h', (∀ c o, c ≠ z → s.heap.get? c = some o → h'.get? c = some o) → Q none { s with heap := h' }) : wpAny (model prog w) A (pyNext (.ref z)) Q E s := by
  have hT : s.TypeIs (.ref z) "reversed" := ⟨_, hz, rfl⟩
  unfold pyNext
  refine wpAny_bind (wpAny_attempt (wpAny_callSpecial?_slot (name := Str.ofString "__next__") hT rv_next
    (wpAny_call_entry rv_next hT rv_entry_next (rv_end hh hz hi fun h' e hk he => ?_) (rv_args_next _))))
  obtain ⟨o, ho, hc⟩ := he
  refine wpAny_bind (wpAny_isInstance (T := "StopIteration") (b := true) ⟨o, ho, hc⟩ isSubtype_stop ?_)
  exact wpAny_pure (q _ hk)
theorem rv_pyIter {z t : Addr} {i : Int} {Q : Value → Shared → Prop} {s : Shared} (hz : IsRv s.heap z t i) (h : Q (.ref z) s) : wpAny (model prog w) A (pyIter (.ref z)) Q E s := by
  have hT : s.TypeIs (.ref z) "reversed" := ⟨_, hz, rfl⟩
  refine wpAny_pyIter_slot hT rv_iter (wpAny_call_entry rv_iter hT rv_entry_iter ?_ (rv_args_iter _))
  show wpAny _ _ (ret (.ref z)) _ _ s
  exact wpAny_pure ⟨_, rfl, "reversed", _, hT, rv_next.lookup, h⟩
theorem rv_call {t : Addr} {xs : Array Value} {Q : Value → Shared → Prop} {s : Shared} (ht : IsTup s.heap t xs) (hl : (xs.size : Int) < 2 ^ 63)
    (h : Q (.ref s.heap.objs.size) { s with heap := s.heap.push { cls := .type "reversed", data := .fields #[.ref t, rawInt ((xs.size : Int) - 1)] }, toks := s.toks + 1 + 1 }) :
    wpAny (model prog w) A (call (.type "reversed") [.ref t]) Q E s := by
  refine callType_new rv_called (by decide) (F.typeCall_reversed_1 _) (F.newCall_reversed_1 _) (fun obj => rv_init_args obj _) F.entry_reversed_new (rv_new t xs hl) ⟨ht, ?_⟩
  exact ⟨⟨_, Heap.get?_push_size _ rfl, rfl⟩, h⟩
end
/-- a tuple walked from its end -/
noncomputable def Itv (K : PySem.W.Frag) (a : Addr) (n : Nat) : It where
  go := fun i H => ∃ xs x, SqT K H a xs ∧ xs.length = n ∧ xs.reverse[i]? = some x
  yld := fun i H x H' => H' = H ∧ ∀ xs, SqT K H a xs → xs.length = n → xs.reverse[i]? = some x
  stop := fun i H => n ≤ i
theorem turn_rev {P : Program} {w : World} {K : PySem.W.Frag} {tg : Expr} (a it : Addr) (n : Nat) : Turn P w K tg (Itv K a n) [it] it (fun i h => IsRv h it a ((n : Int) - 1 - (i : Int))) where
  mem := by simp
  obj := fun i h st b hb => by
    have e : b = it := by simpa using hb
    subst e
    exact ⟨_, st, fun v z => by
      have z' : Data.fields _ = Data.cell v := z
      cases z'⟩
  keep := fun i h h' st k => k it (by simp) _ st
  item := by
    intro X hP hw hK hc i pins s σ H E I hf st hg
    subst hP hw hK
    obtain ⟨xs, x, hq, hn, hx⟩ := hg
    obtain ⟨its, rv, p, hz⟩ := I.tuple hq
    have hlen := rv.length
    have hl63 := line63
    have hi : i < xs.length := by
      have := (List.getElem?_eq_some_iff.mp hx).1
      simpa using this
    rw [List.getElem?_reverse hi] at hx
    obtain ⟨u, hu, ru⟩ := rv.get hx
    obtain ⟨f0, f1, f2, f3, f4, f5⟩ := hf it (by simp)
    have ei : (n : Int) - 1 - (i : Int) = ((xs.length - 1 - i : Nat) : Int) := by omega
    have st2 : IsRv s.heap it a ((xs.length - 1 - i : Nat) : Int) := by rw [← ei]; exact st
    refine rv_pyNext st2 (show IsTup s.heap a its.toArray from p) (by simp only [List.size_toArray]; omega) (x := u) (by simpa using hu) fun h' tk st' sb => ?_
    have I1 : Inv X pins σ H { s with heap := h', toks := tk } := I.turned (t' := tk) (fun b o hb e => (sb.2 b hb).trans e) f0 f1 f3 f4 f5
    refine ⟨u, rfl, go_of (s := { s with heap := h', toks := tk }) (n := "reversed") st' rfl rfl (by decide) ⟨x, H, I1, ru, ⟨rfl, fun ys hy _ => by rw [I.tuple_inj hy hq, List.getElem?_reverse hi]; exact hx⟩, ?_, fun b hb => (hf b hb).1⟩⟩
    have e2 : (n : Int) - 1 - ((i + 1 : Nat) : Int) = ((xs.length - 1 - i : Nat) : Int) - 1 := by omega
    rw [e2]
    exact st'
  done := by
    intro X hP hw hK hc i pins s σ H E I hf st hg
    subst hP hw hK
    obtain ⟨f0, f1, f2, f3, f4, f5⟩ := hf it (by simp)
    exact rv_pyEnd (I.ok.hd hc) st (by have : n ≤ i := hg; omega) fun h' eb => ⟨rfl, I.turned (t' := s.toks) (fun b o hb e => eb b o hb e) f0 f1 f3 f4 f5⟩
  self := fun _ _ _ _ _ st h => rv_pyIter st h
section
variable {X : Cx} {tg : Expr}
noncomputable def iRev (K : PySem.W.Frag) (ta : TA) : TI := fun σ H R => ta σ H fun vs H1 => ∃ a xs, vs = [.ref a] ∧ SqT K H1 a xs ∧ R (Itv K a xs.length) H1
theorem pi_rev {a : Expr} {ta : TA} {p pos : Pos} (hg : Gl X "reversed") (hm : X.mg "reversed" = none) (ha : PA X [a] ta) (hs : starEach [a] X.env = [(false, eval a X.env)] := by rfl) :
    PI X tg (.Call (.Name "reversed" p) [a] [] pos) (iRev X.K ta) := by
  intro pins s σ H R I h
  refine Call_ (ld_blt I hg hm boot_reversed (PyProof.Rows.callWith_type1 (thn (ha pos pins s σ H _ I h) fun us s1 ⟨vs, H1, I1, r1, q1⟩ => ?_) (by rw [hs]; rfl) (by rfl)))
  obtain ⟨t, xs, e, hl, q⟩ := q1
  subst e
  obtain ⟨u, rfl, ru⟩ := vals1 r1
  cases (show u = Value.ref t from ru)
  obtain ⟨its, rv, p, hz⟩ := I1.tuple hl
  have hlen := rv.length
  have hl63 := line63
  refine rv_call (show IsTup s1.heap t its.toArray from p) (by simp only [List.size_toArray]; omega) ?_
  have I2 : Inv X pins σ H1 { s1 with heap := s1.heap.push { cls := .type "reversed", data := .fields #[.ref t, rawInt ((its.toArray.size : Int) - 1)] }, toks := s1.toks + 1 + 1 } := I1.kept fun b o e => Heap.get?_push_of_some _ e
  have e0 : IsRv (s1.heap.push { cls := .type "reversed", data := .fields #[.ref t, rawInt ((its.toArray.size : Int) - 1)] }) s1.heap.objs.size t ((its.toArray.size : Int) - 1) := Heap.get?_push_size _ rfl
  refine rv_pyIter e0 ⟨s1.heap.objs.size, [s1.heap.objs.size], _, _, H1, rfl, I2, turn_rev t _ xs.length, ?_, fun b hb => ?_, q⟩
  · have e3 : ((xs.length : Nat) : Int) - 1 - ((0 : Nat) : Int) = (its.toArray.size : Int) - 1 := by simp only [List.size_toArray]; omega
    rw [e3]
    exact e0
  · have e : b = s1.heap.objs.size := by simpa using hb
    subst e
    exact I1.fpOk (Nat.le_refl _) (I1.hok.fresh (Nat.le_refl _))
end
end L2
end
section
/-! Tuples of ints held side by side; list(range(a, b, c)); comprehensions with a test. -/
namespace L2
open PySem PySem.Spec PyProof.Rows
set_option maxHeartbeats 4000000
set_option Elab.async false
set_option linter.unusedVariables false
theorem vals_of : ∀ (us : List Value) (ns : List Int), us.length = ns.length → (∀ (j : Nat) (u : Value), us[j]? = some u → ∃ t, ∃ i, ns[j]? = some i ∧ u = Value.int i t) → Vals (ns.map V.int) us
  | [], [], _, _ => .nil
  | x :: r, n :: ns, hl, hh => by
    obtain ⟨t, i, e1, e2⟩ := hh 0 x rfl
    have e1' : n = i := by simpa using e1
    subst e1' e2
    exact .cons ⟨t, rfl⟩ (vals_of r ns (by simpa using hl) fun j u h => hh (j + 1) u h)
theorem all_same (ns ms : List Int) : ((List.range (min ns.length ms.length)).all (fun j => ns.getD j 0 == ms.getD j 0) && (ns.length == ms.length)) = decide (ns = ms) := by
  rw [Bool.eq_iff_iff, Bool.and_eq_true, List.all_eq_true, decide_eq_true_eq, beq_iff_eq]
  constructor
  · rintro ⟨h1, h2⟩
    apply List.ext_getElem h2
    intro i a b
    have := h1 i (List.mem_range.mpr (by omega))
    rw [beq_iff_eq, List.getD_eq_getElem?_getD, List.getD_eq_getElem?_getD, List.getElem?_eq_getElem a, List.getElem?_eq_getElem b] at this
    exact this
  · rintro rfl
    exact ⟨fun i _ => by rw [beq_iff_eq], rfl⟩
theorem of_rcne' {prog : Program} {w : World} {A : Around} {E : Value → Shared → Prop} {s : Shared} {a b : Value} {k : Bool} {Q : Value → Shared → Prop} (h : SeqAt.RcNeAt A s a b k) (hq : Q (.bool k) s) : wpAny (model prog w) A (compareOp .NotEq a b) Q E s := h prog w E Q hq
section
variable {X : Cx}
theorem int_val {n : Int} {u : Value} (r : RelV (.int n) u) : ∃ t, u = .int n t := r
theorem ints_eqAt {A : Around} {s : Shared} {ns ms : List Int} {its its2 : List Value} (r1 : Vals (ns.map V.int) its) (r2 : Vals (ms.map V.int) its2) (j : Nat) (h1 : j < its.toArray.size) (h2 : j < its2.toArray.size) :
    SeqAt.EqAt A s its.toArray[j] its2.toArray[j] (ns.getD j 0 == ms.getD j 0) := by
  have l1 := r1.length
  have l2 := r2.length
  rw [List.length_map] at l1 l2
  simp only [List.size_toArray] at h1 h2
  have e1 : (ns.map V.int)[j]? = some (.int ns[j]) := by rw [List.getElem?_map, List.getElem?_eq_getElem (by omega)]; rfl
  have e2 : (ms.map V.int)[j]? = some (.int ms[j]) := by rw [List.getElem?_map, List.getElem?_eq_getElem (by omega)]; rfl
  obtain ⟨u, hu, ru⟩ := r1.get e1
  obtain ⟨v, hv, rv⟩ := r2.get e2
  obtain ⟨t, rfl⟩ := int_val ru
  obtain ⟨t', rfl⟩ := int_val rv
  have a1 : its.toArray[j] = .int ns[j] t := by
    have := (List.getElem?_eq_some_iff.mp hu).2
    simpa using this
  have a2 : its2.toArray[j] = .int ms[j] t' := by
    have := (List.getElem?_eq_some_iff.mp hv).2
    simpa using this
  rw [a1, a2, List.getD_eq_getElem?_getD, List.getD_eq_getElem?_getD, List.getElem?_eq_getElem (by omega), List.getElem?_eq_getElem (by omega)]
  exact SeqAt.EqAt.int_int _ _ _ _
noncomputable def rEqT (K : PySem.W.Frag) : R2 := fun x y H Q => ∃ (a b : Addr) (ns ms : List Int), x = .ref a ∧ y = .ref b ∧ SqT K H a (ns.map V.int) ∧ SqT K H b (ms.map V.int) ∧ Q (.bl (decide (ns = ms))) H
noncomputable def rNeT (K : PySem.W.Frag) : R2 := fun x y H Q => ∃ (a b : Addr) (ns ms : List Int), x = .ref a ∧ y = .ref b ∧ SqT K H a (ns.map V.int) ∧ SqT K H b (ms.map V.int) ∧ Q (.bl (!decide (ns = ms))) H
theorem op_eqT (hu : X.A.units < cLine) : OpR X (compareOp .Eq) (rEqT X.K) := by
  intro pins s σ H x y v u Q I rx ry h
  obtain ⟨a, b, ns, ms, rfl, rfl, ha, hb, q⟩ := h
  cases rx
  cases ry
  obtain ⟨its, r1, p1, _⟩ := I.tuple ha
  obtain ⟨its2, r2, p2, _⟩ := I.tuple hb
  have l1 := r1.length
  have l2 := r2.length
  rw [List.length_map] at l1 l2
  refine SeqAt.eq_tupleAt (show s.heap.IsTuple a its.toArray from p1) (show s.heap.IsTuple b its2.toArray from p2) hu (ints_eqAt r1 r2) ?_
  simp only [List.size_toArray]
  rw [← l1, ← l2, all_same]
  exact ⟨.bl (decide (ns = ms)), H, I, rfl, q⟩
theorem op_neT (hu : X.A.units < cLine) : OpR X (compareOp .NotEq) (rNeT X.K) := by
  intro pins s σ H x y v u Q I rx ry h
  obtain ⟨a, b, ns, ms, rfl, rfl, ha, hb, q⟩ := h
  cases rx
  cases ry
  obtain ⟨its, r1, p1, _⟩ := I.tuple ha
  obtain ⟨its2, r2, p2, _⟩ := I.tuple hb
  have l1 := r1.length
  have l2 := r2.length
  rw [List.length_map] at l1 l2
  refine of_rcne' (SeqAt.RcNeAt.tuples (show s.heap.IsTuple a its.toArray from p1) (show s.heap.IsTuple b its2.toArray from p2) hu (ints_eqAt r1 r2)) ?_
  simp only [List.size_toArray]
  rw [← l1, ← l2, all_same]
  exact ⟨.bl (!decide (ns = ms)), H, I, rfl, q⟩
end
end L2
end
section
/-! name = [comprehension]; comprehensions with a test; ranges walked by a comprehension. -/
namespace L2
open PySem PySem.Spec PyProof.Rows
set_option maxHeartbeats 4000000
set_option Elab.async false
set_option linter.unusedVariables false
/-- name = [comprehension]: the name is stored while the block still stands -/
noncomputable def tSetC (i : Nat) (te : TE) : TS := fun D σ H => te σ H fun v H1 => D.nx (σ.set i (some v)) H1
theorem ps_comp {X : Cx} {elt tg iter : Expr} {ifs : List Expr} {scope : Scope} {pos pos' spos : Pos} {N : List Str} {nt : Nat} {js : List Nat} {sc : Scope} {N0 : List Str} {wi : TI} {g : TG} {tt : TT} {te : TE} {ii : Nat} {nm : Str}
    (hNd : X.N.Nodup) (hii : X.N[ii]? = some nm) (hloc : Loc X.env.scope nm)
    (hc : X.calm = true) (hsc : X.env.scope = sc) (hN : X.N = N0) (B : Blk sc N0 N nt js scope) (hi : PI X tg iter wi)
    (hg : ∀ cl C s H fp, PG (blk X N scope cl C s H fp) tg g) (ht : ∀ cl C s H fp, PTs (blk X N scope cl C s H fp) ifs tt) (he : ∀ cl C s H fp, PE (blk X N scope cl C s H fp) elt te)
    (hsw : swapsWith (.ListComp elt [⟨tg, iter, ifs, 0⟩] scope pos) (some (.Name nm pos')) spos.line X.env = pure true := by rfl)
    (hf : X.fn nm = true ∨ X.env.scope.names.lookup nm = some .local := by first | exact .inl rfl | exact .inr rfl | assumption)
    (hs : ∀ x, foldedSetIterable iter X.env x = pure x := by intro _; rfl) : PS X (.Assign [.Name nm pos'] (.ListComp elt [⟨tg, iter, ifs, 0⟩] scope pos) spos) (tSetC ii (tComp nt js wi g tt te)) := by
  subst hsc hN
  intro pins s σ H D I h
  obtain ⟨cl, hcl, c1, c2⟩ := clos_of (env := X.env) (scope := scope) fun y hy hk => I.ok.has y.1 (B.cap y hy hk)
  rw [PySem.exec_Assign_Name_used _ _ _ _ hsw]
  refine wpAny_bind (wpAny_standAt (wpAny_bind ?_))
  show wpAny _ _ (comprehension _ scope X.env _ _ _ _ (some (assign (.Name nm pos') X.env)) >>= _) _ _ _
  refine wpAny_bind (thn (Q := fun _ s' => ∃ σ' H', Inv X pins σ' H' s' ∧ D.nx σ' H') ?_ fun _ s9 q9 => wpAny_pure (wpAny_pure q9))
  refine wpAny_comprehension_free (use := some (assign (.Name nm pos') X.env)) rfl hs hcl B.kind B.loc (thn (hi pins s σ H _ I h) fun v s1 q1 => thn q1 fun itv s2 q2 => ?_)
  obtain ⟨it, fp, tn, J, H2, e, I2, T, st2, f2, q2⟩ := q2
  subst e
  obtain ⟨W, ⟨m0, w0⟩, turn⟩ := q2 s2.heap.objs.size (I2.hok.fresh (Nat.le_refl _))
  have hlt : ∀ b ∈ fp, b < s2.heap.objs.size := fun b hb => by
    obtain ⟨o, eo, _⟩ := T.obj _ _ st2 b hb
    exact Heap.lt_size eo
  refine wpAny_newObj_type (wpAny_newFunctionEnv B.nocell (by intro y hy; simp at hy) (fun h1 hns hsb => ?_) B.kind)
  dsimp only at hns hsb ⊢
  have hsz : (s2.heap.push { cls := .type "list", dict := none, data := .seq ([] : List Value).toArray }).objs.size = s2.heap.objs.size + 1 := by rw [Heap.size_push]
  have old : ∀ b o, s2.heap.get? b = some o → h1.get? b = some o := fun b o eb => hsb.extBut b o (by rw [hsz]; exact Nat.ne_of_lt (Nat.lt_succ_of_lt (Heap.lt_size eb))) (Heap.get?_push_of_some _ (Heap.get?_push_of_some _ eb))
  have hD : h1.get? s2.heap.objs.size = some { cls := .type "list", data := .seq ([] : List Value).toArray 0 } := hsb.extBut _ _ (by rw [hsz]; exact Nat.ne_of_lt (Nat.lt_succ_self _)) (Heap.get?_push_of_some _ (Heap.get?_push_size _ rfl))
  rw [hsz] at hns
  have I3 := blk_start (cl := cl) (fp := fp) (tk := s2.toks + ([] : List (Str × Value)).length) I2 B c1 c2 f2 hlt old (show h1.Ns (s2.heap.objs.size + 1) fun _ => none from hns) hD
  have stat : ∀ {H' : Hp}, (∀ b ∈ fp, H' b = none) → ∀ b ∈ fp, FpOk (blk X N scope cl (s2.heap.objs.size + 1) s2 H2 fp) [] H' b := fun {H'} hn b hb =>
    ⟨hn b hb, Nat.ne_of_lt (Nat.lt_succ_of_lt (hlt b hb)), fun z => (List.mem_cons.mp (I2.stkSub b z)).elim (f2 b hb).2.1 (f2 b hb).2.2.1, .inl hb, fun x c ec => (f2 b hb).2.2.2.2.1 x c (c1 x c ec), fun p hp => absurd (show p ∈ ([] : List (Addr × Obj)) from hp) (by simp)⟩
  have fin : ∀ {i : Nat} {σ' : St} {H' : Hp} {s' : Shared}, Inv (blk X N scope cl (s2.heap.objs.size + 1) s2 H2 fp) [] σ' H' s' → D.nx (σ.set ii (some (.ref s2.heap.objs.size))) H' →
      compPost (model X.prog X.w) X.A X.xe (some (assign (.Name nm pos') X.env)) (fun _ s' => ∃ σ' H', Inv X pins σ' H' s' ∧ D.nx σ' H') (.ref s2.heap.objs.size) (s2.heap.objs.size + 1) (.ok .next) s' := fun {i σ' H' s'} Ib q => by
    obtain ⟨m, hn, _⟩ := id Ib.loc
    have I4 : Inv X pins σ H' s' := I2.call' Ib.os Ib.base Ib.hok Ib.bare fun b hb => ⟨(f2 b hb).2.2.2.1, (f2 b hb).2.1, (f2 b hb).2.2.2.2.1, (f2 b hb).2.2.2.2.2⟩
    obtain ⟨g0, g1, g2, g3, g4, g5⟩ := I2.fpOk (H' := H') (Nat.le_succ _) Ib.free
    show wpAny _ _ (assign (.Name nm pos') X.env (.ref s2.heap.objs.size)) _ _ _
    refine wpAny_bind (wpAny_standAt (wpAny_bindName (store_ok2 I4 hNd hii hloc (v := .ref s2.heap.objs.size) rfl (fun s5 I5 ⟨a, sb, ha⟩ => ?_) hf)))
    have na : s2.heap.objs.size + 1 ≠ a := by
      rcases ha with rfl | ha
      · exact g1
      · exact fun z => g4 _ _ ha z.symm
    refine ⟨m, hn.sameBut sb na, fun h'' hs'' => ?_⟩
    exact ⟨_, H', I5.turned (t' := s5.toks) (fun b o hb eb => hs''.extBut b o hb eb) g0 g1 g3 g4 g5, q⟩
  have loop : codeAny (model X.prog X.w) X.A (.compLoop (.ListComp elt [⟨tg, iter, ifs, 0⟩] scope pos) 0 (.ref it) (.ref s2.heap.objs.size) (compEnvC scope cl (s2.heap.objs.size + 1) X.env))
      (compPost (model X.prog X.w) X.A X.xe (some (assign (.Name nm pos') X.env)) (fun _ s' => ∃ σ' H', Inv X pins σ' H' s' ∧ D.nx σ' H') (.ref s2.heap.objs.size) (s2.heap.objs.size + 1)) { s2 with heap := h1, toks := s2.toks + ([] : List (Str × Value)).length } := by
    refine comp_turns (fun n s' => ∃ i σ' H', Inv (blk X N scope cl (s2.heap.objs.size + 1) s2 H2 fp) [] σ' H' s' ∧ tn i s'.heap ∧ (∀ b ∈ fp, H' b = none) ∧ W i n σ' H') ?_ m0
      ⟨0, _, _, I3, T.keep _ _ _ st2 fun b _ o eb => old b o eb, fun b hb => ?_, w0⟩
    · rintro n s3 ⟨i, σ3, H3, J3, st3, fr3, w3⟩
      rcases turn i n σ3 H3 w3 with ⟨stop, qn⟩ | ⟨go, step⟩
      · refine thn (T.done (blk X N scope cl (s2.heap.objs.size + 1) s2 H2 fp) rfl rfl rfl hc i [] s3 σ3 H3 _ J3 (stat fr3) st3 stop) fun r s4 ⟨hr, I4⟩ => ?_
        subst hr
        exact fin (i := i) I4 qn
      · refine thn (T.item (blk X N scope cl (s2.heap.objs.size + 1) s2 H2 fp) rfl rfl rfl hc i [] s3 σ3 H3 _ J3 (stat fr3) st3 go) fun r s4 ⟨u, hr, h4⟩ => ?_
        subst hr
        refine thn h4 fun _ s5 ⟨x, H5, I5, r5, y5, st5, fr5⟩ => ?_
        have I5' := I5.pinned (stat fr5) (T.obj _ _ st5)
        refine thn (hg _ _ _ _ _ _ s5 σ3 H5 x u _ I5' r5 (step x H5 y5)) fun _ s6 ⟨σ6, H6, I6, q6⟩ => ?_
        have again : ∀ {σ7 : St} {H7 : Hp} {s7 : Shared} {k : Nat}, Inv (blk X N scope cl (s2.heap.objs.size + 1) s2 H2 fp) ([] ++ pinsAt fp s5.heap) σ7 H7 s7 → k < n → W (i + 1) k σ7 H7 →
            ∃ k, k < n ∧ ∃ i σ' H', Inv (blk X N scope cl (s2.heap.objs.size + 1) s2 H2 fp) [] σ' H' s7 ∧ tn i s7.heap ∧ (∀ b ∈ fp, H' b = none) ∧ W i k σ' H' := fun {σ7 H7 s7 k} I7 hk w7 => by
          refine ⟨k, hk, i + 1, σ7, H7, I7.unpinned, T.keep _ _ _ st5 fun b hb o eb => (I7.pin (b, o) (List.mem_append_right _ (List.mem_append_right _ (mem_pinsAt hb eb)))).1, fun b hb => ?_, w7⟩
          obtain ⟨o, eb, _⟩ := T.obj _ _ st5 b hb
          exact (I7.pin (b, o) (List.mem_append_right _ (List.mem_append_right _ (mem_pinsAt hb eb)))).2.1
        refine thn (ht _ _ _ _ _ _ s6 σ6 H6 _ I6 q6) fun ok s7 ⟨H7, I7, q7⟩ => ?_
        cases ok with
        | false =>
          rw [if_neg Bool.false_ne_true] at q7 ⊢
          obtain ⟨k, hk, w7⟩ := q7
          exact again I7 hk w7
        | true =>
          rw [if_pos rfl] at q7 ⊢
          refine thn (he _ _ _ _ _ _ s7 σ6 H7 _ I7 q7) fun y s8 ⟨v8, H8, I8, r8, ys, e8, z8, k, hk, w8⟩ => ?_
          refine thn (mt_append _ s8 σ6 H8 (.ref s2.heap.objs.size) [v8] _ [y] (fun _ H9 => W (i + 1) k σ6 H9) I8 rfl (.cons r8 .nil) ⟨_, ys, v8, rfl, rfl, e8, z8, w8⟩) fun _ s9 ⟨_, H9, I9, _, w9⟩ => ?_
          exact again I9 hk w9
    · show upd H2 _ _ b = none
      rw [upd_ne (Nat.ne_of_lt (hlt b hb))]
      exact (f2 b hb).1
  rw [hsz]
  exact codeAny_compStart_list loop (T.self _ 0 _ _ _ (T.keep _ _ _ st2 fun b _ o eb => old b o eb) loop)

end L2
end
section
/-! Comprehensions with a test; ranges and reversed tuples walked by one. -/
namespace L2
open PySem PySem.Spec PyProof.Rows
set_option maxHeartbeats 4000000
set_option Elab.async false
set_option linter.unusedVariables false
theorem range_filter_succ (n : Nat) (keep : Nat → Bool) : (List.range (n + 1)).filter keep = (List.range n).filter keep ++ (if keep n = true then [n] else []) := by
  rw [List.range_succ, List.filter_append]
  congr 1
  cases h : keep n <;> simp [h]
theorem comp_sel {J : It} {g : TG} {tt : TT} {te : TE} {Q : VK} {D : Addr} {H1 : Hp} {σ0 : St} (n : Nat) (hn : n ≤ sizeLine) (keep : Nat → Bool) (f : Nat → V) (Sg : St → Prop) (itm : Nat → Hp → V → Prop) (hD : H1 D = none) (s0 : Sg σ0)
    (items : ∀ i H, Same H1 H → (i < n → J.go i H ∧ ∀ x H2, J.yld i H x H2 → Same H H2 ∧ itm i H2 x) ∧ (n ≤ i → J.stop i H))
    (step : ∀ i x σ' H, i < n → Same H1 H → itm i H x → Sg σ' → ∀ (R : St → V → Hp → Prop) (S : St → Hp → Prop), (keep i = true → ∀ σ3 y H5, Sg σ3 → Same H H5 → y = f i → R σ3 y H5) → (keep i = false → ∀ σ3 H4, Sg σ3 → Same H H4 → S σ3 H4) →
      g x σ' H fun σ3 H3 => tt σ3 H3 fun ok H4 => if ok = true then te σ3 H4 (R σ3) else S σ3 H4)
    (fin : ∀ H', Same H1 H' → H' D = some (.lst (((List.range n).filter keep).map f)) → Q (.ref D) H') :
    cmpW J g tt te Q D σ0 H1 := by
  refine ⟨fun i m σ H => m = n - i ∧ i ≤ n ∧ Sg σ ∧ Same H1 H ∧ H D = some (.lst (((List.range i).filter keep).map f)), ⟨n, by omega, Nat.zero_le _, s0, (Same.refl H1).upd_free hD _, upd_same⟩, ?_⟩
  rintro i m σ H ⟨rfl, hi, hs, sm, hd⟩
  by_cases hlt : i < n
  · obtain ⟨go, yl⟩ := (items i H sm).1 hlt
    refine .inr ⟨go, fun x H2 y => ?_⟩
    obtain ⟨s2, im⟩ := yl x H2 y
    refine step i x σ H2 hlt (sm.trans s2) im hs _ _ (fun kp σ3 y H5 g3 s5 ey => ?_) (fun kp σ3 H4 g3 s4 => ?_)
    · have ll : (((List.range i).filter keep).map f).length ≤ i := by
        rw [List.length_map]
        exact Nat.le_trans (List.length_filter_le _ _) (by rw [List.length_range]; exact Nat.le_refl _)
      refine ⟨_, s5 _ _ (s2 _ _ hd), by omega, n - (i + 1), by omega, rfl, by omega, g3, (sm.trans (s2.trans s5)).upd_free hD _, ?_⟩
      rw [upd_same, ey, range_filter_succ, if_pos kp, List.map_append]
      rfl
    · refine ⟨n - (i + 1), by omega, rfl, by omega, g3, sm.trans (s2.trans s4), ?_⟩
      rw [s4 _ _ (s2 _ _ hd), range_filter_succ, if_neg (by rw [kp]; exact Bool.false_ne_true), List.append_nil]
  · have e : i = n := by omega
    subst e
    exact .inl ⟨(items i H sm).2 (Nat.le_refl _), fin H sm hd⟩
theorem items_rng {H1 : Hp} (lo : Int) (n : Nat) (i : Nat) (H : Hp) (s : Same H1 H) :
    (i < n → (Itr lo n).go i H ∧ ∀ x H2, (Itr lo n).yld i H x H2 → Same H H2 ∧ x = .int (lo + (i : Int))) ∧ (n ≤ i → (Itr lo n).stop i H) := by
  refine ⟨fun hi => ⟨hi, fun x H2 ⟨e, y⟩ => ?_⟩, fun hi => hi⟩
  subst e
  exact ⟨Same.refl _, y⟩
theorem items_rev {K : PySem.W.Frag} {a : Addr} {xs : List V} {H1 : Hp} (h : H1 a = some (.tup xs)) (i : Nat) (H : Hp) (s : Same H1 H) :
    (i < xs.length → (Itv K a xs.length).go i H ∧ ∀ x H2, (Itv K a xs.length).yld i H x H2 → Same H H2 ∧ xs.reverse[i]? = some x) ∧ (xs.length ≤ i → (Itv K a xs.length).stop i H) := by
  have q : SqT K H a xs := SqT.of (s _ _ h)
  refine ⟨fun hi => ⟨⟨xs, xs.reverse[i]'(by simpa using hi), q, rfl, List.getElem?_eq_getElem _⟩, fun x H2 ⟨e, y⟩ => ?_⟩, fun hi => hi⟩
  subst e
  exact ⟨Same.refl _, y xs q rfl⟩
end L2
end
section
/-! BALLS AND BOXES: a carrier goes from the left to the right over the boxes. -/
namespace BB
/-- at one box: the load behind it, and whether a ball lies there then -/
noncomputable def stp (z L : Nat) (b : Bool) : Nat × Bool :=
  if b then (if L < z then (L + 1, false) else (L, true)) else (if 0 < L then (L - 1, true) else (0, false))
noncomputable def out (z : Nat) : Nat → List Bool → List Bool
  | _, [] => []
  | L, b :: r => (stp z L b).2 :: out z (stp z L b).1 r
noncomputable def fin (z : Nat) : Nat → List Bool → Nat
  | L, [] => L
  | L, b :: r => fin z (stp z L b).1 r
theorem stp_le {z L : Nat} {b : Bool} (h : L ≤ z) : (stp z L b).1 ≤ z := by
  unfold stp
  cases b <;> simp only [Bool.false_eq_true, if_false, if_true]
  · split <;> simp only <;> omega
  · split <;> simp only <;> omega
theorem stp_back {z L : Nat} {b : Bool} (h : L ≤ z) : stp z (stp z L b).1 (stp z L b).2 = (L, b) := by
  unfold stp
  cases b
  · by_cases c : 0 < L
    · simp only [Bool.false_eq_true, if_false, if_true, if_pos c]
      rw [if_pos (by omega)]
      congr 1
      omega
    · simp only [Bool.false_eq_true, if_false, if_neg c, Nat.lt_irrefl]
      congr 1
      omega
  · by_cases c : L < z
    · simp only [if_true, if_pos c, Bool.false_eq_true, if_false, Nat.succ_pos]
      rfl
    · simp only [if_true, if_neg c]
theorem out_append (z : Nat) : ∀ (L : Nat) (x y : List Bool), out z L (x ++ y) = out z L x ++ out z (fin z L x) y
  | _, [], _ => rfl
  | L, b :: r, y => by
    show _ :: out z _ (r ++ y) = _ :: (out z _ r ++ _)
    rw [out_append z _ r y]
    rfl
theorem fin_append (z : Nat) : ∀ (L : Nat) (x y : List Bool), fin z L (x ++ y) = fin z (fin z L x) y
  | _, [], _ => rfl
  | L, b :: r, y => fin_append z _ r y
theorem out_length (z : Nat) : ∀ (L : Nat) (bs : List Bool), (out z L bs).length = bs.length
  | _, [] => rfl
  | L, b :: r => by
    show (out z _ r).length + 1 = r.length + 1
    rw [out_length z _ r]
/-- from the right to the left it is all undone -/
theorem back {z : Nat} : ∀ {L : Nat} {bs : List Bool}, L ≤ z → out z (fin z L bs) (out z L bs).reverse = bs.reverse ∧ fin z (fin z L bs) (out z L bs).reverse = L
  | L, [], _ => ⟨rfl, rfl⟩
  | L, b :: r, h => by
    obtain ⟨h1, h2⟩ := back (bs := r) (stp_le (b := b) h)
    have e : (out z L (b :: r)).reverse = (out z (stp z L b).1 r).reverse ++ [(stp z L b).2] := List.reverse_cons
    have ef : fin z L (b :: r) = fin z (stp z L b).1 r := rfl
    have hb := stp_back (b := b) h
    rw [e, ef, out_append, fin_append, h1, h2]
    constructor
    · show r.reverse ++ [(stp z (stp z L b).1 (stp z L b).2).2] = _
      rw [hb, List.reverse_cons]
    · show (stp z (stp z L b).1 (stp z L b).2).1 = L
      rw [hb]
theorem count_out {z : Nat} : ∀ {L : Nat} {bs : List Bool}, (out z L bs).count true + fin z L bs = L + bs.count true
  | L, [] => by simp [out, fin]
  | L, b :: r => by
    have ih := count_out (z := z) (L := (stp z L b).1) (bs := r)
    have e1 : out z L (b :: r) = (stp z L b).2 :: out z (stp z L b).1 r := rfl
    have e2 : fin z L (b :: r) = fin z (stp z L b).1 r := rfl
    rw [e1, e2, List.count_cons, List.count_cons]
    have k : (stp z L b).1 + (if (stp z L b).2 == true then 1 else 0) = L + (if b == true then 1 else 0) := by
      unfold stp
      cases b
      · simp only [Bool.false_eq_true, if_false]
        split <;> simp <;> omega
      · simp only [if_true]
        split <;> simp
    omega
/-- the places of the balls -/
noncomputable def places : Int → List Bool → List Int
  | _, [] => []
  | lo, b :: r => (if b = true then [lo] else []) ++ places (lo + 1) r
theorem places_append : ∀ (lo : Int) (x y : List Bool), places lo (x ++ y) = places lo x ++ places (lo + (x.length : Int)) y
  | lo, [], y => by show places lo y = places (lo + ((0 : Nat) : Int)) y; congr 1; omega
  | lo, b :: r, y => by
    show _ ++ places (lo + 1) (r ++ y) = (_ ++ places (lo + 1) r) ++ places (lo + ((r.length + 1 : Nat) : Int)) y
    rw [places_append (lo + 1) r y, List.append_assoc]
    congr 3
    omega
theorem places_length : ∀ (lo : Int) (bs : List Bool), (places lo bs).length = bs.count true
  | _, [] => rfl
  | lo, b :: r => by
    show (_ ++ places (lo + 1) r).length = _
    rw [List.length_append, places_length (lo + 1) r, List.count_cons]
    cases b <;> simp <;> omega
theorem places_ge : ∀ {lo : Int} {bs : List Bool} {p : Int}, p ∈ places lo bs → lo ≤ p ∧ p < lo + (bs.length : Int)
  | lo, [], p, h => by cases h
  | lo, b :: r, p, h => by
    rcases List.mem_append.mp (show p ∈ (if b = true then [lo] else []) ++ places (lo + 1) r from h) with h | h
    · cases b
      · cases h
      · have : p = lo := by simpa using h
        subst this
        simp only [List.length_cons]
        omega
    · have := places_ge h
      simp only [List.length_cons]
      omega
theorem places_up : ∀ (lo : Int) (bs : List Bool), (places lo bs).Pairwise (· < ·)
  | _, [] => .nil
  | lo, b :: r => by
    refine List.pairwise_append.mpr ⟨by cases b <;> simp, places_up (lo + 1) r, fun x hx y hy => ?_⟩
    have := places_ge hy
    cases b
    · cases hx
    · have : x = lo := by simpa using hx
      omega
noncomputable def mir (row : List Int) : List Int := row.reverse.map fun p => -p
theorem mir_mir (row : List Int) : mir (mir row) = row := by
  unfold mir
  rw [← List.map_reverse, List.reverse_reverse, List.map_map]
  refine (List.map_congr_left fun p _ => ?_).trans (List.map_id row)
  show - -p = p
  omega
theorem mir_length (row : List Int) : (mir row).length = row.length := by unfold mir; rw [List.length_map, List.length_reverse]
theorem mir_places : ∀ (lo : Int) (bs : List Bool), mir (places lo bs) = places (1 - (lo + (bs.length : Int))) bs.reverse
  | _, [] => rfl
  | lo, b :: r => by
    have e : mir (places lo (b :: r)) = mir (places (lo + 1) r) ++ mir (if b = true then [lo] else []) := by
      show mir (_ ++ places (lo + 1) r) = _
      unfold mir
      rw [List.reverse_append, List.map_append]
    rw [e, mir_places (lo + 1) r, List.reverse_cons, places_append]
    congr 1
    · congr 1
      simp only [List.length_cons]
      omega
    · have e2 : 1 - (lo + ((b :: r).length : Int)) + (r.reverse.length : Int) = -lo := by
        simp only [List.length_cons, List.length_reverse]
        omega
      rw [e2]
      cases b <;> rfl
theorem mir_up {row : List Int} (h : row.Pairwise (· < ·)) : (mir row).Pairwise (· < ·) := by
  unfold mir
  rw [List.pairwise_map, List.pairwise_reverse]
  exact h.imp fun {a b} z => by omega
/-- as many places on from lo -/
noncomputable def row (lo : Int) (n : Nat) : List Int := (List.range n).map fun (k : Nat) => lo + (k : Int)
theorem row_zero (lo : Int) : row lo 0 = [] := rfl
theorem row_succ (lo : Int) (n : Nat) : row lo (n + 1) = lo :: row (lo + 1) n := by
  unfold row
  rw [List.range_succ_eq_map, List.map_cons, List.map_map]
  congr 1
  · show lo + ((0 : Nat) : Int) = lo
    omega
  · refine List.map_congr_left fun k _ => ?_
    show lo + ((k + 1 : Nat) : Int) = lo + 1 + (k : Int)
    omega
/-- ball by ball -/
noncomputable def sp (z : Nat) : Nat → Int → List Int → List Int
  | L, box, [] => row box L
  | L, box, p :: r => row box (min L (p - box).toNat) ++
    (if L - min L (p - box).toNat < z then sp z (L - min L (p - box).toNat + 1) (p + 1) r else p :: sp z (L - min L (p - box).toNat) (p + 1) r)
theorem sp_gap {z L : Nat} {lo : Int} {rw_ : List Int} (h : ∀ p ∈ rw_, lo + 1 ≤ p) : sp z L lo rw_ = if 0 < L then lo :: sp z (L - 1) (lo + 1) rw_ else sp z 0 (lo + 1) rw_ := by
  cases rw_ with
  | nil =>
    show row lo L = if 0 < L then lo :: row (lo + 1) (L - 1) else row (lo + 1) 0
    cases L with
    | zero => rfl
    | succ L => rw [if_pos (Nat.succ_pos L), row_succ]; rfl
  | cons p r =>
    have hp := h p (List.mem_cons_self ..)
    cases L with
    | zero =>
      rw [if_neg (by omega)]
      unfold sp
      rw [Nat.zero_min, Nat.zero_min]
      rfl
    | succ L =>
      rw [if_pos (Nat.succ_pos L)]
      have e : min (L + 1) (p - lo).toNat = min L (p - (lo + 1)).toNat + 1 := by omega
      unfold sp
      rw [e, row_succ, show L + 1 - 1 = L from rfl, show L + 1 - (min L (p - (lo + 1)).toNat + 1) = L - min L (p - (lo + 1)).toNat by omega]
      rfl
theorem sp_places (z : Nat) : ∀ (L : Nat) (lo : Int) (bs : List Bool), sp z L lo (places lo bs) = places lo (out z L bs) ++ row (lo + (bs.length : Int)) (fin z L bs)
  | L, lo, [] => by
    show row lo L = [] ++ row (lo + ((0 : Nat) : Int)) L
    rw [List.nil_append]
    congr 1
    omega
  | L, lo, false :: r => by
    have e : places lo (false :: r) = places (lo + 1) r := rfl
    rw [e, sp_gap fun p hp => (places_ge hp).1]
    have el : lo + 1 + (r.length : Int) = lo + ((false :: r).length : Int) := by simp only [List.length_cons]; omega
    by_cases c : 0 < L
    · rw [if_pos c, sp_places z (L - 1) (lo + 1) r, el]
      have e1 : stp z L false = (L - 1, true) := by unfold stp; simp only [Bool.false_eq_true, if_false, if_pos c]
      show _ = ((if (stp z L false).2 = true then [lo] else []) ++ places (lo + 1) (out z (stp z L false).1 r)) ++ row _ (fin z (stp z L false).1 r)
      rw [e1]
      rfl
    · rw [if_neg c, sp_places z 0 (lo + 1) r, el]
      have e1 : stp z L false = (0, false) := by unfold stp; simp only [Bool.false_eq_true, if_false, if_neg c]
      show _ = ((if (stp z L false).2 = true then [lo] else []) ++ places (lo + 1) (out z (stp z L false).1 r)) ++ row _ (fin z (stp z L false).1 r)
      rw [e1]
      rfl
  | L, lo, true :: r => by
    have e : places lo (true :: r) = lo :: places (lo + 1) r := rfl
    have el : lo + 1 + (r.length : Int) = lo + ((true :: r).length : Int) := by simp only [List.length_cons]; omega
    rw [e]
    unfold sp
    have em : min L (lo - lo).toNat = 0 := by rw [Int.sub_self]; exact Nat.min_zero L
    rw [em, row_zero, List.nil_append, Nat.sub_zero]
    by_cases c : L < z
    · rw [if_pos c, sp_places z (L + 1) (lo + 1) r, el]
      have e1 : stp z L true = (L + 1, false) := by unfold stp; simp only [if_true, if_pos c]
      show _ = ((if (stp z L true).2 = true then [lo] else []) ++ places (lo + 1) (out z (stp z L true).1 r)) ++ row _ (fin z (stp z L true).1 r)
      rw [e1]
      rfl
    · rw [if_neg c, sp_places z L (lo + 1) r, el]
      have e1 : stp z L true = (L, true) := by unfold stp; simp only [if_true, if_neg c]
      show _ = ((if (stp z L true).2 = true then [lo] else []) ++ places (lo + 1) (out z (stp z L true).1 r)) ++ row _ (fin z (stp z L true).1 r)
      rw [e1]
      rfl
theorem sp_free {z : Nat} {box box' : Int} : ∀ {r : List Int}, sp z 0 box r = sp z 0 box' r
  | [] => rfl
  | p :: r => by
    unfold sp
    rw [Nat.zero_min, Nat.zero_min]
    rfl
/-- the row behind a step of a carrier -/
noncomputable def step (z : Nat) (r : List Int) : List Int := sp z 0 (r.headD 0) r
theorem step_places {z : Nat} {lo : Int} {bs : List Bool} (h : fin z 0 bs = 0) : step z (places lo bs) = places lo (out z 0 bs) := by
  unfold step
  rw [sp_free (box' := lo), sp_places, h, row_zero, List.append_nil]
/-- every rising row is the places of some boxes -/
theorem cells : ∀ (n : Nat) (lo : Int) (r : List Int), r.Pairwise (· < ·) → (∀ p ∈ r, lo ≤ p ∧ p < lo + (n : Int)) → ∃ bs : List Bool, bs.length = n ∧ places lo bs = r
  | 0, lo, r, _, h => by
    cases r with
    | nil => exact ⟨[], rfl, rfl⟩
    | cons p r => have := h p (List.mem_cons_self ..); omega
  | n + 1, lo, r, up, h => by
    cases r with
    | nil =>
      obtain ⟨bs, e1, e2⟩ := cells n (lo + 1) [] .nil (fun p hp => by cases hp)
      exact ⟨false :: bs, by rw [List.length_cons, e1], e2⟩
    | cons p r =>
      obtain ⟨u1, u2⟩ := List.pairwise_cons.mp up
      have hp := h p (List.mem_cons_self ..)
      by_cases c : p = lo
      · subst c
        obtain ⟨bs, e1, e2⟩ := cells n (p + 1) r u2 fun q hq => by
          have := u1 q hq
          have := h q (List.mem_cons_of_mem _ hq)
          omega
        refine ⟨true :: bs, by rw [List.length_cons, e1], ?_⟩
        show [p] ++ places (p + 1) bs = _
        rw [e2]
        rfl
      · obtain ⟨bs, e1, e2⟩ := cells n (lo + 1) (p :: r) up fun q hq => by
          have := h q hq
          rcases List.mem_cons.mp hq with rfl | hq'
          · omega
          · have := u1 q hq'
            omega
        exact ⟨false :: bs, by rw [List.length_cons, e1], e2⟩
theorem fin_falses (z : Nat) : ∀ (k L : Nat), fin z L (List.replicate k false) = L - k
  | 0, L => rfl
  | k + 1, L => by
    show fin z (stp z L false).1 (List.replicate k false) = _
    rw [fin_falses z k]
    unfold stp
    simp only [Bool.false_eq_true, if_false]
    split <;> simp only <;> omega
theorem places_falses : ∀ (k : Nat) (lo : Int), places lo (List.replicate k false) = []
  | 0, _ => rfl
  | k + 1, lo => places_falses k (lo + 1)
/-- with boxes enough behind, the carrier ends with nothing -/
theorem window (z : Nat) {A B : Int} {r : List Int} (up : r.Pairwise (· < ·)) (h : ∀ p ∈ r, A ≤ p ∧ p ≤ B) : ∃ bs : List Bool, places A bs = r ∧ fin z 0 bs = 0 ∧ bs.count true = r.length ∧ (r ≠ [] → A + (bs.length : Int) ≤ B + 1 + (r.length : Int)) := by
  obtain ⟨bs, e1, e2⟩ := cells (B + 1 - A).toNat A r up fun p hp => by have := h p hp; omega
  have hc : bs.count true = r.length := by rw [← places_length A bs, e2]
  have hf : fin z 0 bs ≤ r.length := by have := count_out (z := z) (L := 0) (bs := bs); omega
  refine ⟨bs ++ List.replicate (fin z 0 bs) false, ?_, ?_, ?_, fun ne => ?_⟩
  · rw [places_append, places_falses, List.append_nil, e2]
  · rw [fin_append, fin_falses, Nat.sub_self]
  · rw [List.count_append, hc]
    have : (List.replicate (fin z 0 bs) false).count true = 0 := by simp [List.count_replicate]
    omega
  · cases r with
    | nil => exact absurd rfl ne
    | cons p r =>
      have := h p (List.mem_cons_self ..)
      rw [List.length_append, List.length_replicate, e1]
      omega
/-- rising, so many, between A and B -/
structure Rw (r : List Int) (k : Nat) (A B : Int) : Prop where
  up : r.Pairwise (· < ·)
  len : r.length = k
  bd : ∀ p ∈ r, A ≤ p ∧ p ≤ B
theorem Rw.mono {r : List Int} {k : Nat} {A B A' B' : Int} (h : Rw r k A B) (ha : A' ≤ A) (hb : B ≤ B') : Rw r k A' B' := ⟨h.up, h.len, fun p hp => by have := h.bd p hp; omega⟩
theorem Rw.mir {r : List Int} {k : Nat} {A B : Int} (h : Rw r k A B) : Rw (mir r) k (-B) (-A) := ⟨mir_up h.up, by rw [mir_length, h.len], fun p hp => by
  obtain ⟨q, hq, rfl⟩ := List.mem_map.mp hp
  have := h.bd q (List.mem_reverse.mp hq)
  omega⟩
theorem Rw.step {r : List Int} {k : Nat} {A B : Int} (z : Nat) (h : Rw r k A B) : Rw (step z r) k A (B + (k : Int)) := by
  obtain ⟨bs, e1, e2, e3, e4⟩ := window z h.up h.bd
  have hc := count_out (z := z) (L := 0) (bs := bs)
  rw [← e1, step_places e2]
  refine ⟨places_up _ _, by rw [places_length]; have := h.len; omega, fun p hp => ?_⟩
  have := places_ge hp
  rw [out_length] at this
  have ne : r ≠ [] := fun w => by
    have : (places A (out z 0 bs)).length = 0 := by rw [places_length]; rw [w] at e3; simp only [List.length_nil] at e3; omega
    rw [List.length_eq_zero_iff] at this
    rw [this] at hp
    cases hp
  have := e4 ne
  have := h.len
  omega
/-- the row of which it is the row behind a step -/
noncomputable def unstep (z : Nat) (r : List Int) : List Int := mir (step z (mir r))
theorem Rw.unstep {r : List Int} {k : Nat} {A B : Int} (z : Nat) (h : Rw r k A B) : Rw (unstep z r) k (A - (k : Int)) B := by
  have := (h.mir.step z).mir
  rw [Int.neg_neg, show -(-A + (k : Int)) = A - (k : Int) by omega] at this
  exact this
theorem unstep_step (z : Nat) {r : List Int} {k : Nat} {A B : Int} (h : Rw r k A B) : unstep z (step z r) = r := by
  obtain ⟨bs, e1, e2, _⟩ := window z h.up h.bd
  obtain ⟨b1, b2⟩ := back (z := z) (bs := bs) (Nat.zero_le z)
  rw [e2] at b1 b2
  unfold unstep
  rw [← e1, step_places e2, mir_places, step_places b2, b1, mir_places]
  rw [List.reverse_reverse, out_length, List.length_reverse]
  congr 1
  omega
theorem step_unstep (z : Nat) {r : List Int} {k : Nat} {A B : Int} (h : Rw r k A B) : step z (unstep z r) = r := by
  have := unstep_step z h.mir
  unfold unstep at this
  have e := congrArg mir this
  rw [mir_mir, mir_mir] at e
  unfold unstep
  exact e
end BB
end
section
/-! Steps again and again, shifts, loads. -/
namespace BB
noncomputable def it (f : List Int → List Int) : Nat → List Int → List Int
  | 0, r => r
  | n + 1, r => f (it f n r)
theorem Rw.its {z : Nat} {r : List Int} {k : Nat} {A B : Int} (h : Rw r k A B) : ∀ n : Nat, Rw (it (BB.step z) n r) k A (B + (n : Int) * (k : Int))
  | 0 => by
    show Rw r k A (B + ((0 : Nat) : Int) * (k : Int))
    rw [show ((0 : Nat) : Int) * (k : Int) = 0 by simp, Int.add_zero]
    exact h
  | n + 1 => by
    have := (h.its (z := z) n).step z
    rw [show B + ((n + 1 : Nat) : Int) * (k : Int) = B + (n : Int) * (k : Int) + (k : Int) by rw [Int.natCast_add, Int.add_mul]; omega]
    exact this
theorem Rw.itu {z : Nat} {r : List Int} {k : Nat} {A B : Int} (h : Rw r k A B) : ∀ n : Nat, Rw (it (BB.unstep z) n r) k (A - (n : Int) * (k : Int)) B
  | 0 => by
    show Rw r k (A - ((0 : Nat) : Int) * (k : Int)) B
    rw [show ((0 : Nat) : Int) * (k : Int) = 0 by simp, Int.sub_zero]
    exact h
  | n + 1 => by
    have := (h.itu (z := z) n).unstep z
    rw [show A - ((n + 1 : Nat) : Int) * (k : Int) = A - (n : Int) * (k : Int) - (k : Int) by rw [Int.natCast_add, Int.add_mul]; omega]
    exact this
noncomputable def lat (z : Nat) (s : Int) (r : List Int) : List Int := if 0 < s then it (step z) s.toNat r else it (unstep z) (-s).toNat r
/-! shifts -/
/-! loads -/
noncomputable def ld (L : Nat) (b : Bool) : Nat := if b then L + 1 else L - 1
noncomputable def lst : Nat → List Bool → Nat
  | L, [] => L
  | L, b :: r => lst (ld L b) r
end BB
end
section
/-! name = [comprehension over one name]; two more built-ins. -/
namespace L2
open PySem PySem.Spec PyProof.Rows
set_option maxHeartbeats 4000000
set_option Elab.async false
set_option linter.unusedVariables false
structure Nb2 (mg : Str → Option Value) : Prop extends Nb mg where
  rev : mg "reversed" = none
  abs : mg "abs" = none
section
variable {X : Cx} {elt iter : Expr} {ifs : List Expr} {scope : Scope} {pos pos' spos : Pos} {N : List Str} {js : List Nat} {sc : Scope} {N0 : List Str} {wi : TI} {tt : TT} {te : TE} {x nm : Str} {px : Pos} {ii : Nat}
theorem ps_comp1 (hNd : X.N.Nodup) (hii : X.N[ii]? = some nm) (hloc : Loc X.env.scope nm) (hc : X.calm = true) (hsc : X.env.scope = sc) (hN : X.N = N0) (B : Blk sc N0 (x :: N) 1 js scope) (hx : scope.names.lookup x = some .local) (hi : PI X (.Name x px) iter wi)
    (ht : ∀ cl C s H fp, PTs (blk X (x :: N) scope cl C s H fp) ifs tt) (he : ∀ cl C s H fp, PE (blk X (x :: N) scope cl C s H fp) elt te)
    (hsw : swapsWith (.ListComp elt [⟨.Name x px, iter, ifs, 0⟩] scope pos) (some (.Name nm pos')) spos.line X.env = pure true := by rfl)
    (hf : X.fn nm = true ∨ X.env.scope.names.lookup nm = some .local := by first | exact .inl rfl | exact .inr rfl | assumption)
    (hs : ∀ x, foldedSetIterable iter X.env x = pure x := by intro _; rfl) : PS X (.Assign [.Name nm pos'] (.ListComp elt [⟨.Name x px, iter, ifs, 0⟩] scope pos) spos) (tSetC ii (tComp 1 js wi (gName 0) tt te)) :=
  ps_comp hNd hii hloc hc hsc hN B hi (fun cl C s H fp => pg_name (i := 0) B.nd rfl (.inl (blk_loc hx)) (.inr (blk_loc hx))) ht he hsw hf hs
end
end L2
end
section
set_option Elab.async false
set_option linter.all false
set_option maxRecDepth 100000
namespace L2
open PySem PySem.Spec PyProof.Rows

/-! ### lists of pairs as tables -/
section
variable {κ : Type} [DecidableEq κ]
noncomputable def valV (kvs : List (κ × V)) (k : κ) : Option V := (kvs.find? fun kv => decide (kv.1 = k)).map (·.2)
/-- in its place, or at the end -/
noncomputable def putK (kvs : List (κ × V)) (k : κ) (v : V) : List (κ × V) :=
  if (kvs.any fun kv => decide (kv.1 = k)) = true then kvs.map (fun kv => if kv.1 = k then (kv.1, v) else kv) else kvs ++ [(k, v)]
noncomputable def dropK (kvs : List (κ × V)) (k : κ) : List (κ × V) := kvs.filter fun kv => decide (kv.1 ≠ k)

end


/-! ### a tracked dict, its keys ints and texts or tuples of these -/
/-- raw entries of a dict with tuple keys -/
noncomputable abbrev KT (H : Hp) : List (List Key × V) → List (List Key × Addr × Value) → Prop := Paired fun p q => p.1 = q.1 ∧ H q.2.1 = some (.tup (p.1.map kV)) ∧ RelV p.2 q.2.2
section
variable {P : Program} {w : World} {H : Hp} {h : Heap} {a : Addr}
end

/-- what the dict at a holds at the key y -/
noncomputable def DGet (H : Hp) (a : Addr) (y : V) (r : Option V) : Prop :=
  (∃ kvs k, Rd H a (.dK kvs) ∧ y = kV k ∧ r = valV kvs k) ∨ ∃ kvs k b, Rd H a (.dT kvs) ∧ y = .ref b ∧ H b = some (.tup (k.map kV)) ∧ r = valV kvs k
/-- the heap behind a[y] = v -/
noncomputable def DPut (H : Hp) (a : Addr) (y v : V) (H' : Hp) : Prop :=
  (∃ kvs k, H a = some (.dK kvs) ∧ y = kV k ∧ kvs.length < sizeLine ∧ H' = upd H a (.dK (putK kvs k v))) ∨
  ∃ kvs k b, H a = some (.dT kvs) ∧ y = .ref b ∧ H b = some (.tup (k.map kV)) ∧ kvs.length < sizeLine ∧ H' = upd H a (.dT (putK kvs k v))
section
variable {X : Cx} {pins : List (Addr × Obj)} {σ : St} {H : Hp} {s : Shared} {a : Addr} {y v : V} {u r : Value} {o : Option V} {A : Around} {E : Value → Shared → Prop}

end

section
variable {X : Cx} {pins : List (Addr × Obj)} {σ : St} {H : Hp} {s : Shared} {a : Addr} {kvs : List (Key × V)} {k : Key} {u : Value} {A : Around} {E : Value → Shared → Prop}
end


/-! ### readings and rules -/
section
variable {X : Cx} {o i e value : Expr} {pos pos' tpos : Pos} {td ty tv : TE}
end


/-! ### displays -/
section
variable {X : Cx} {pos : Pos}
end

/-! ### methods -/
/-- a method call o.m(e) of a built-in, with one argument: what must be seen of the text -/
structure M1 (X : Cx) (o : Expr) (m : Str) (apos : Pos) (e : Expr) (cpos : Pos) : Prop where
  base : attributeBase o m X.env (eval o X.env) = eval o X.env
  few : ((backTo cpos (starEach [e] X.env)).all (fun x => !x.1) && (backToKw cpos (keywordEach [] X.env)).all (fun x => x.1.isSome)
    && decide (([e] : List Expr).length + ([] : List Keyword).length + (if ([] : List Keyword).isEmpty then 0 else 1) < 30)) = true
  line : (apos.endLine == cpos.line) = true
  trees : backTo cpos (starEach [e] X.env) = [(false, eval e X.env)]
structure M2 (X : Cx) (o : Expr) (m : Str) (apos : Pos) (e f : Expr) (cpos : Pos) : Prop where
  base : attributeBase o m X.env (eval o X.env) = eval o X.env
  few : ((backTo cpos (starEach [e, f] X.env)).all (fun x => !x.1) && (backToKw cpos (keywordEach [] X.env)).all (fun x => x.1.isSome)
    && decide (([e, f] : List Expr).length + ([] : List Keyword).length + (if ([] : List Keyword).isEmpty then 0 else 1) < 30)) = true
  line : (apos.endLine == cpos.line) = true
  trees : backTo cpos (starEach [e, f] X.env) = [(false, eval e X.env), (false, eval f X.env)]

section
variable {X : Cx} {pins : List (Addr × Obj)} {σ : St} {H : Hp} {s : Shared} {a : Addr} {y d : V} {u r : Value} {o : Option V} {A : Around} {E : Value → Shared → Prop}
end

section
variable {X : Cx} {o e f : Expr} {apos cpos : Pos} {td ty tx : TE}
end

/-! ### dict(d): a copy -/
section
variable {X : Cx} {pins : List (Addr × Obj)} {σ : St} {H : Hp} {s : Shared} {a : Addr} {kvs : List (Key × V)} {A : Around} {E : Value → Shared → Prop}
end


section
variable {X : Cx} {pins : List (Addr × Obj)} {σ : St} {H : Hp} {s : Shared} {a : Addr} {y : V} {u : Value} {A : Around} {E : Value → Shared → Prop}
end
end L2
namespace L2
open PySem PySem.Spec PyProof.Rows
/-! ### a dict's pairs: keys that differ -/
section
variable {κ : Type} [DecidableEq κ]
end
end L2
end
section
/-! sorted(d) of a dict with int keys. -/
namespace L2
open PySem PySem.Spec PyProof.Rows
set_option maxHeartbeats 4000000
set_option maxRecDepth 100000
set_option Elab.async false
set_option linter.unusedVariables false
section
variable {X : Cx}
end
end L2
end
section
/-! isinstance(x, (list, tuple)); zip of two tuples or two lists, whichever. -/
namespace L2
open PySem PySem.Spec PyProof.Rows
set_option maxHeartbeats 4000000
set_option maxRecDepth 100000
set_option Elab.async false
set_option linter.unusedVariables false
section
variable {X : Cx} {pins : List (Addr × Obj)} {σ : St} {H : Hp} {s : Shared} {A : Around} {E : Value → Shared → Prop} {Q : Value → Shared → Prop}
end
section
variable {X : Cx}
theorem items_zipL {K : PySem.W.Frag} {a b : Addr} {xs ys : List V} {H1 : Hp} (h : H1 a = some (.lst xs)) (h' : H1 b = some (.lst ys)) (i : Nat) (H : Hp) (s : Same H1 H) :
    (i < min xs.length ys.length → (Itz false K a b).go i H ∧ ∀ v H2, (Itz false K a b).yld i H v H2 → Same H H2 ∧ ∃ p x y, v = .ref p ∧ H2 p = some (.tup [x, y]) ∧ xs[i]? = some x ∧ ys[i]? = some y) ∧ (min xs.length ys.length ≤ i → (Itz false K a b).stop i H) := by
  have q : SqK false K H a xs := SqL.of (s _ _ h)
  have q' : SqK false K H b ys := SqL.of (s _ _ h')
  refine ⟨fun hi => ⟨⟨xs, ys, xs[i]'(by omega), ys[i]'(by omega), q, q', List.getElem?_eq_getElem (by omega), List.getElem?_eq_getElem (by omega)⟩, fun v H2 ⟨p, x, y, e1, e2, e3, e4, e5⟩ => ?_⟩, fun hi => ⟨xs, ys, q, q', ?_⟩⟩
  · subst e3
    exact ⟨same_new e2 _, p, x, y, e1, upd_same, e4 xs q, e5 ys q'⟩
  · by_cases hx : xs.length ≤ i
    · exact .inl (List.getElem?_eq_none hx)
    · exact .inr (List.getElem?_eq_none (by omega))
/-- two things that are the same, n deep -/
noncomputable def Sm (H : Hp) : Nat → V → V → Prop
  | 0, x, y => (x = y ∧ ((∃ i, x = .int i) ∨ (∃ b, x = .bl b) ∨ (∃ z, x = .str z) ∨ x = .non))
  | n + 1, x, y => (x = y ∧ ((∃ i, x = .int i) ∨ (∃ b, x = .bl b) ∨ (∃ z, x = .str z) ∨ x = .non)) ∨
    ∃ (a b : Addr) (xs ys : List V), x = .ref a ∧ y = .ref b ∧ ((H a = some (.tup xs) ∧ H b = some (.tup ys)) ∨ (H a = some (.lst xs) ∧ H b = some (.lst ys))) ∧ xs.length = ys.length ∧ xs.length ≤ 1000 ∧
      ∀ (i : Nat) (u v : V), xs[i]? = some u → ys[i]? = some v → Sm H n u v
end
end L2
end
section
/-! dict(l) of a list of pairs. -/
namespace L2
open PySem PySem.Spec PyProof.Rows
set_option maxHeartbeats 4000000
set_option maxRecDepth 100000
set_option Elab.async false
set_option linter.unusedVariables false
section
variable {prog : Program} {w : World} {A : Around} {R : Result → Shared → Prop}
/-- how far the loop has come -/
structure DL (prog : Program) (w : World) (l it d : Addr) (vs : List Value) (kvs : List (Key × Value)) (i : Nat) (h : Heap) : Prop where
  po : h.IsListIter it l i
  ls : h.IsList l vs.toArray
  dt : h.DictOf (mixKind prog w) d (kvs.take i)
  pr : ∀ (j : Nat) (v : Value), vs[j]? = some v → ∃ (p : Addr) (k : Key) (key x : Value), v = Value.ref p ∧ IsTup h p #[key, x] ∧ kvs[j]? = some (k, x) ∧ (mixKind prog w).is k key = true
end
end L2
end
section
namespace L2
open PySem PySem.Spec PyProof.Rows
set_option maxHeartbeats 4000000
set_option maxRecDepth 100000
set_option Elab.async false
set_option linter.unusedVariables false
section
variable {prog : Program} {w : World} {A : Around} {s : Shared} {R : Result → Shared → Prop}
end
section
variable {X : Cx}
end
end L2
end
section
/-! Ball by ball: each to the next box that is empty. -/
namespace BB
/-- the first place from x on that is none of R's -/
noncomputable def nx : Int → List Int → Int
  | x, [] => x
  | x, q :: R => if q < x then nx x R else if q = x then nx (x + 1) R else x
/-- the first n places from b on that are none of R's -/
noncomputable def emp : Nat → Int → List Int → List Int
  | 0, _, _ => []
  | n + 1, b, R => nx b R :: emp n (nx b R + 1) R
/-- and the one behind them -/
noncomputable def gy : Nat → Int → List Int → Int
  | 0, b, R => nx b R
  | n + 1, b, R => gy n (nx b R + 1) R
/-- two rising lists with the same members are one -/
theorem rise_ext : ∀ {x y : List Int}, x.Pairwise (· < ·) → y.Pairwise (· < ·) → (∀ a, a ∈ x ↔ a ∈ y) → x = y
  | [], [], _, _, _ => rfl
  | [], b :: y, _, _, h => absurd ((h b).mpr (List.mem_cons_self ..)) (by simp)
  | a :: x, [], _, _, h => absurd ((h a).mp (List.mem_cons_self ..)) (by simp)
  | a :: x, b :: y, hx, hy, h => by
    obtain ⟨x1, x2⟩ := List.pairwise_cons.mp hx
    obtain ⟨y1, y2⟩ := List.pairwise_cons.mp hy
    have e : a = b := by
      rcases List.mem_cons.mp ((h a).mp (List.mem_cons_self ..)) with z | z
      · exact z
      · rcases List.mem_cons.mp ((h b).mpr (List.mem_cons_self ..)) with w | w
        · exact w.symm
        · have := y1 a z; have := x1 b w; omega
    subst e
    congr 1
    refine rise_ext x2 y2 fun c => ⟨fun hc => ?_, fun hc => ?_⟩
    · rcases List.mem_cons.mp ((h c).mp (List.mem_cons_of_mem _ hc)) with z | z
      · have := x1 c hc; omega
      · exact z
    · rcases List.mem_cons.mp ((h c).mpr (List.mem_cons_of_mem _ hc)) with z | z
      · have := y1 c hc; omega
      · exact z
/-- how the boxes stand while the balls R are still to go -/
structure At (z : Nat) (all R bh ks : List Int) (L : Nat) (box : Int) : Prop where
  eq : bh ++ sp z L box R = step z all
  cnt : bh.length + L + R.length = z
  lo : ∀ x ∈ bh, x < box
  ge : ∀ x ∈ R, box ≤ x
  up : R.Pairwise (· < ·)
  mem : ∀ x, x ∈ ks ↔ x ∈ bh ∨ x ∈ emp L box R ∨ x ∈ R
end BB
end
section
/-! Comprehensions of new tuples; a dict's int keys. -/
namespace L2
open PySem PySem.Spec PyProof.Rows
set_option maxHeartbeats 4000000
set_option Elab.async false
set_option linter.unusedVariables false
structure Nb3 (mg : Str → Option Value) : Prop extends Nb2 mg where
  dict : mg "dict" = none
  sorted : mg "sorted" = none
theorem comp_tups {J : It} {g : TG} {te : TE} {Q : VK} {D : Addr} {H1 : Hp} {σ0 : St} (n : Nat) (hn : n ≤ sizeLine) (f : Nat → List V) (Sg : St → Prop) (itm : Nat → Hp → V → Prop) (hD : H1 D = none) (s0 : Sg σ0)
    (items : ∀ i H, Same H1 H → (i < n → J.go i H ∧ ∀ x H2, J.yld i H x H2 → Same H H2 ∧ itm i H2 x) ∧ (n ≤ i → J.stop i H))
    (step : ∀ i x σ' H, i < n → Same H1 H → itm i H x → Sg σ' → ∀ R : St → V → Hp → Prop, (∀ σ3 p H5, Sg σ3 → Same H H5 → H5 p = some (.tup (f i)) → R σ3 (.ref p) H5) → g x σ' H fun σ3 H3 => te σ3 H3 (R σ3))
    (fin : ∀ H' ys, Same H1 H' → H' D = some (.lst ys) → ys.length = n → (∀ (j : Nat) (y : V), ys[j]? = some y → ∃ p, y = .ref p ∧ H' p = some (.tup (f j))) → Q (.ref D) H') :
    cmpW J g tYes te Q D σ0 H1 := by
  refine ⟨fun i m σ H => m = n - i ∧ i ≤ n ∧ Sg σ ∧ Same H1 H ∧ ∃ ys, H D = some (.lst ys) ∧ ys.length = i ∧ ∀ (j : Nat) (y : V), ys[j]? = some y → ∃ p, y = .ref p ∧ H p = some (.tup (f j)), ⟨n, by omega, Nat.zero_le _, s0, (Same.refl H1).upd_free hD _, [], upd_same, rfl, fun j y h => by cases h⟩, ?_⟩
  rintro i m σ H ⟨rfl, hi, hs, sm, ys, hd, hl, hy⟩
  by_cases hlt : i < n
  · obtain ⟨go, yl⟩ := (items i H sm).1 hlt
    refine .inr ⟨go, fun x H2 y => ?_⟩
    obtain ⟨s2, im⟩ := yl x H2 y
    have key := step i x σ H2 hlt (sm.trans s2) im hs (fun σ3 y H5 => ∃ ys, H5 D = some (.lst ys) ∧ ys.length < sizeLine ∧ ∃ m', m' < n - i ∧ (m' = n - (i + 1) ∧ i + 1 ≤ n ∧ Sg σ3 ∧ Same H1 (upd H5 D (.lst (ys ++ [y]))) ∧ ∃ zs, (upd H5 D (.lst (ys ++ [y]))) D = some (.lst zs) ∧ zs.length = i + 1 ∧ ∀ (j : Nat) (u : V), zs[j]? = some u → ∃ p, u = .ref p ∧ (upd H5 D (.lst (ys ++ [y]))) p = some (.tup (f j)))) fun σ3 p H5 g3 s5 ep => by
      refine ⟨ys, s5 _ _ (s2 _ _ hd), by omega, n - (i + 1), by omega, rfl, by omega, g3, (sm.trans (s2.trans s5)).upd_free hD _, ys ++ [.ref p], upd_same, by rw [List.length_append, List.length_singleton, hl], fun j u hu => ?_⟩
      have dd := s5 _ _ (s2 _ _ hd)
      by_cases c : j < ys.length
      · rw [List.getElem?_append_left c] at hu
        obtain ⟨p', e1, e2⟩ := hy j u hu
        have e3 := s5 _ _ (s2 _ _ e2)
        exact ⟨p', e1, by rw [upd_ne (ne_of e3 dd (by intro z; cases z))]; exact e3⟩
      · have ej : j = i := by
          have := (List.getElem?_eq_some_iff.mp hu).1
          rw [List.length_append, List.length_singleton] at this
          omega
        subst ej
        rw [List.getElem?_append_right (by omega), hl, Nat.sub_self] at hu
        have eu : u = .ref p := by simpa using hu.symm
        exact ⟨p, eu, by rw [upd_ne (ne_of ep dd (by intro z; cases z))]; exact ep⟩
    have e : (fun (σ3 : St) (H3 : Hp) => te σ3 H3 fun y H5 => ∃ ys, H5 D = some (.lst ys) ∧ ys.length < sizeLine ∧ ∃ m', m' < n - i ∧ (m' = n - (i + 1) ∧ i + 1 ≤ n ∧ Sg σ3 ∧ Same H1 (upd H5 D (.lst (ys ++ [y]))) ∧ ∃ zs, (upd H5 D (.lst (ys ++ [y]))) D = some (.lst zs) ∧ zs.length = i + 1 ∧ ∀ (j : Nat) (u : V), zs[j]? = some u → ∃ p, u = .ref p ∧ (upd H5 D (.lst (ys ++ [y]))) p = some (.tup (f j)))) =
        fun (σ3 : St) (H3 : Hp) => tYes σ3 H3 fun ok H4 => if ok = true then te σ3 H4 fun y H5 => ∃ ys, H5 D = some (.lst ys) ∧ ys.length < sizeLine ∧ ∃ m', m' < n - i ∧ (m' = n - (i + 1) ∧ i + 1 ≤ n ∧ Sg σ3 ∧ Same H1 (upd H5 D (.lst (ys ++ [y]))) ∧ ∃ zs, (upd H5 D (.lst (ys ++ [y]))) D = some (.lst zs) ∧ zs.length = i + 1 ∧ ∀ (j : Nat) (u : V), zs[j]? = some u → ∃ p, u = .ref p ∧ (upd H5 D (.lst (ys ++ [y]))) p = some (.tup (f j)))
          else ∃ m', m' < n - i ∧ (m' = n - (i + 1) ∧ i + 1 ≤ n ∧ Sg σ3 ∧ Same H1 H4 ∧ ∃ zs, H4 D = some (.lst zs) ∧ zs.length = i + 1 ∧ ∀ (j : Nat) (u : V), zs[j]? = some u → ∃ p, u = .ref p ∧ H4 p = some (.tup (f j))) := by
      funext σ3 H3
      unfold tYes
      dsimp only
      rw [if_pos rfl]
    rw [← e]
    exact key
  · have e : i = n := by omega
    subst e
    exact .inl ⟨(items i H sm).2 (Nat.le_refl _), fin H ys sm hd hl hy⟩
/-! a dict's int keys -/
end L2
end
section
/-! Lists of ints held side by side, as long as one another. -/
namespace L2
open PySem PySem.Spec PyProof.Rows
set_option maxHeartbeats 4000000
set_option Elab.async false
set_option linter.unusedVariables false
section
variable {X : Cx}
end
end L2
end
section
/-! How many balls a carrier takes. -/
namespace BB
noncomputable def tkn (z : Nat) : Nat → Int → List Int → Nat
  | _, _, [] => 0
  | L, box, p :: r => if L - min L (p - box).toNat < z then tkn z (L - min L (p - box).toNat + 1) (p + 1) r + 1 else tkn z (L - min L (p - box).toNat) (p + 1) r
theorem less_min (m t : Nat) : m - min m t = m - t := by
  rcases Nat.le_total m t with z | z
  · rw [Nat.min_eq_left z, Nat.sub_self, Nat.sub_eq_zero_of_le z]
  · rw [Nat.min_eq_right z]
/-- the lesser of a load and a gap -/
theorem load_gap {L : Nat} {d : Int} (h : 0 ≤ d) : (if d < (L : Int) then d else (L : Int)) = ((min L d.toNat : Nat) : Int) := by
  obtain ⟨n, rfl⟩ := Int.eq_ofNat_of_zero_le h
  rw [Int.toNat_natCast]
  split
  · rename_i c
    rw [Nat.min_eq_right (Int.ofNat_le.mp (Int.le_of_lt c))]
  · rename_i c
    rw [Nat.min_eq_left (Int.ofNat_le.mp (Int.not_lt.mp c))]
theorem tkn_gap {z L : Nat} {lo : Int} {R : List Int} (h : ∀ p ∈ R, lo + 1 ≤ p) : tkn z L lo R = tkn z (L - 1) (lo + 1) R := by
  cases R with
  | nil => rfl
  | cons p r =>
    have hp := h p (List.mem_cons_self ..)
    obtain ⟨n, e⟩ : ∃ n : Nat, p - (lo + 1) = (n : Int) := Int.eq_ofNat_of_zero_le (Int.sub_nonneg_of_le hp)
    have e2 : p - lo = ((n + 1 : Nat) : Int) := by omega
    unfold tkn
    rw [e, e2, Int.toNat_natCast, Int.toNat_natCast, less_min, less_min, Nat.sub_sub, Nat.add_comm 1 n]
theorem tkn_free {z : Nat} {box box' : Int} : ∀ {r : List Int}, tkn z 0 box r = tkn z 0 box' r
  | [] => rfl
  | p :: r => by
    unfold tkn
    rw [Nat.zero_min, Nat.zero_min]
noncomputable def taken (z : Nat) (r : List Int) : Nat := tkn z 0 (r.headD 0) r
/-- box by box: what lies there, what is carried, what is still to come -/
structure By (z : Nat) (all R fo : List Int) (L t : Nat) (x : Int) : Prop where
  eq : fo ++ sp z L x R = step z all
  tk : t + tkn z L x R = taken z all
  ge : L ≠ 0 → ∀ p ∈ R, x ≤ p
  up : R.Pairwise (· < ·)
  le : L ≤ z
end BB
end
section
/-! l != []. -/
namespace L2
open PySem PySem.Spec PyProof.Rows
set_option maxHeartbeats 4000000
set_option Elab.async false
set_option linter.unusedVariables false
section
variable {X : Cx}
end
end L2
end
section
/-! f-strings of texts and small ints. -/
namespace L2
open PySem PySem.Spec PyProof.Rows
set_option maxHeartbeats 4000000
set_option Elab.async false
set_option linter.unusedVariables false
noncomputable abbrev TJ := Str → St → Hp → VK → Prop
section
variable {X : Cx} {e : Expr} {es : List Expr} {te : TE} {t : TJ} {pos : Pos}
end
end L2
end
section
/-! An exception in flight, by the layer's own heap: what the library keeps of a base, kept of a base that is chosen for each step: the heap itself without the exception, its traceback and the frames. -/
namespace L2
open PySem PySem.Spec PyProof.Rows
set_option maxHeartbeats 4000000
set_option Elab.async false
set_option linter.unusedVariables false

/-! ### a heap without some of its objects -/
noncomputable def lessOf : List Addr → Heap → Heap
  | [], h => h
  | a :: S, h => (lessOf S h).update a fun o => { o with data := .freed }
/-! ### in flight -/
/-- the exception at e with its traceback at T -/
noncomputable def Trc (h : Heap) (e T : Addr) (cls : Value) : Prop :=
  ∃ oe vs oT ts a0, h.get? e = some oe ∧ oe.cls = cls ∧ vs[0]? = some a0 ∧ oe.data = .fields vs ∧ vs[1]? = some (.ref T) ∧ T ≠ e ∧ h.get? T = some oT ∧ oT.data = .fields ts ∧ ts[3]? = some .none
/-- behind a call that raised: outer the callers, H and s ahead of the call -/
structure Fly (P : Program) (w : World) (outer : List Env) (H : Hp) (s : Shared) (H' : Hp) (e : Addr) (cls : Value) (s' : Shared) : Prop where
  os : s'.os = s.os
  bare : AllBare s'.gens
  un : Un (frs outer) [] H H' s.heap s'.heap
  hok : HOk P w H' s'.heap
  new : s.heap.get? e = none
  free : H' e = none
  tr : ∃ T, Trc s'.heap e T cls ∧ s.heap.get? T = none ∧ H' T = none
noncomputable def CXF (P : Program) (w : World) : CXT := fun outer H s E v s' => ∃ e cls H', v = .ref e ∧ Fly P w outer H s H' e cls s' ∧ E cls (some e) H'

section
variable {P : Program} {w : World} {base : Heap} {env : Env} {outer : List Env} {L : Addr}
/-- what leaving a frame has done to a heap: all but S is as it was, of what has no fields at most the slots changed -/
structure Gone (S : List Addr) (h h' : Heap) : Prop where
  keep : ∀ b o, b ∉ S → h.get? b = some o → h'.get? b = some o
  slot : h.UpToSlots h'
end
/-! ### out of a def's frame -/
section
variable {X : Cx} {pins : List (Addr × Obj)} {σ : St} {H H' : Hp} {s s' : Shared} {e : Addr} {cls : Value} {Q : Unit → Shared → Prop} {E : Value → Shared → Prop}
/-- a def's body, no comprehension's block -/
structure Own (X : Cx) : Prop where
  stk : X.stack = X.env :: X.outer
  frm : X.env.frame = some X.env.locals
  ex : X.ex = []
end
end L2
end
section
/-! raise C(..), C an own class below ValueError; defs that may raise. -/
namespace L2
open PySem PySem.Spec PyProof.Rows
set_option maxHeartbeats 4000000
set_option Elab.async false
set_option linter.unusedVariables false

noncomputable abbrev mroV : List Value := [.type "ValueError", .type "Exception", .type "BaseException", .type "object"]
/-- an own class below ValueError, behind the top: bm the classes above it -/
structure Exc (K : PySem.W.Frag) (C : Addr) (bm : List Value) : Prop where
  ob : ∃ (nm q : Str) (N : Addr) (bs : List Value) (hdct : Bool) (sn : List Str) (sub : List Value) (ab : Bool) (col : Option Bool) (dd : Option Addr) (k0 k1 k2 k3 k5 : Option Value),
    K.lookup C = some (excClassObj nm q C N bs bm hdct sn sub ab col dd k0 k1 k2 k3 k5 "ValueError.__new__") ∧ PySem.W.nsOkIn K N = true ∧ PySem.W.nsIn K N "__init__" = some none
  tl : PySem.W.tailIn K mroV bm = true
  bb : bm.contains (.type "BaseException") = true
  vb : bm.contains (.type "ValueError") = true

/-! ### contexts of defs that may raise -/
section
variable {P : Program} {w : World} {K : PySem.W.Frag} {mg : Str → Option Value} {base : Heap} {N : List Str} {qual : Str} {scope : Scope} {f : Addr} {cd : Value} {A : Around} {outer : List Env} {s : Shared} {H : Hp} {E : XK}
/-- what a def's body wants of an exception is that it leaves the frame -/
structure Lvs (X : Cx) (E : XK) : Prop where
  own : Own X
  xe : ∀ e s', wpAny (model X.prog X.w) X.A (leaving X.env e) (fun _ s'' => CXF X.prog X.w X.outer X.H₀ X.s₀ E e s'') (fun e' s'' => CXF X.prog X.w X.outer X.H₀ X.s₀ E e' s'') s' → X.xe e s'
end
section
variable {X : Cx} {E E' : XK}
end
end L2
end
section
/-! An exception that is caught in a def's frame. -/
namespace L2
open PySem PySem.Spec PyProof.Rows
set_option maxHeartbeats 4000000
set_option maxRecDepth 100000
set_option Elab.async false
set_option linter.unusedVariables false
section
variable {X : Cx} {pins : List (Addr × Obj)} {σ : St} {H H' : Hp} {s s' : Shared} {e T : Addr} {cls : Value} {S : List Addr} {h' : Heap}
variable {A : Around} {M : Model} {E : Value → Shared → Prop} {Q : Unit → Shared → Prop}
end
end L2
end
section
/-! Own classes held against an exception. -/
namespace L2
open PySem PySem.Spec PyProof.Rows
set_option maxHeartbeats 4000000
set_option maxRecDepth 100000
set_option Elab.async false
set_option linter.unusedVariables false
section
variable {M : Model} {A : Around} {E : Value → Shared → Prop} {h : Heap} {g : Array GenState} {d : Drawn} {t : Nat} {os : OsState} {e C C0 : Addr} {oe : Obj} {Q : Bool → Shared → Prop}
variable {nm q : Str} {N : Addr} {bs bm : List Value} {hdct : Bool} {sn : List Str} {sub : List Value} {ab : Bool} {col : Option Bool} {dd : Option Addr} {k0 k1 k2 k3 k5 : Option Value} {ni : String}
variable {nm' q' : Str} {N' : Addr} {bs' bm' : List Value} {hdct' : Bool} {sn' : List Str} {sub' : List Value} {ab' : Bool} {col' : Option Bool} {dd' : Option Addr} {k0' k1' k2' k3' k5' : Option Value} {ni' : String}
end
section
variable {prog : Program} {w : World} {A : Around} {E : Value → Shared → Prop} {K : PySem.W.Frag} {h : Heap} {g : Array GenState} {d : Drawn} {t : Nat} {os : OsState} {e C : Addr} {dc : Option Addr} {vs : Array Value} {sl : Array (Option Value)}
end
end L2
end
section
/-! isinstance of an exception; try .. except C as e. -/
namespace L2
open PySem PySem.Spec PyProof.Rows
set_option maxHeartbeats 4000000
set_option maxRecDepth 100000
set_option Elab.async false
set_option linter.unusedVariables false
/-- what the tables tell of an own class below ValueError -/
structure ExcF (K : PySem.W.Frag) (C : Addr) (bm : List Value) : Prop extends Exc K C bm where
  l1 : PySem.W.findIn K (.ref C) "__getattribute__" = some (some (.builtin "BaseException.__getattribute__"))
  l2 : PySem.W.findIn K (.ref C) "__class__" = some (some (.builtin "object.__class__"))
  l3 : PySem.W.findIn K (.ref C) "__getattr__" = some none
  l4 : PySem.W.subIn K (.ref C) (.type "BaseException") = some true
  l5 : PySem.W.subIn K (.ref C) (.type "object") = some true
section
variable {X : Cx}
end
end L2
end
section
/-! try: .. except C as e: .. -/
namespace L2
open PySem PySem.Spec PyProof.Rows
set_option maxHeartbeats 4000000
set_option maxRecDepth 100000
set_option Elab.async false
set_option linter.unusedVariables false
/-- within an except suite -/
noncomputable abbrev Cx.held (X : Cx) (A : Around) (E : Value → Shared → Prop) : Cx := { X with A := A, calm := false, xe := E }
section
variable {X : Cx} {pins : List (Addr × Obj)} {σ : St} {H H' : Hp} {s s' : Shared} {e C : Addr} {cls : Value} {A : Around} {E : Value → Shared → Prop}
end
/-- a suite that may raise: how it ends, and how an exception leaves it -/
noncomputable abbrev TB := St → Hp → (Hp → Prop) → XK → Prop
section
variable {X : Cx} {body suite : List Stmt} {b₀ : Stmt} {tb : TB} {ts : TS} {x n : Str} {np hp pos : Pos} {C0 : Addr} {bm0 : List Value} {k : Nat}
end
end L2
end
section
/-! Things that lie fixed; a thing that runs when called; `call()` as the body of a try. -/
namespace L2
open PySem PySem.Spec PyProof.Rows
set_option maxHeartbeats 4000000
set_option maxRecDepth 100000
set_option Elab.async false
set_option linter.unusedVariables false
/-- the object o at a, for good -/
noncomputable def Fz (a : Addr) (o : Obj) : HO := .frz o (.ext fun h => h.get? a = some o)
end L2
end
section
/-! A lambda without parameters runs. -/
namespace L2
open PySem PySem.Spec PyProof.Rows
set_option maxHeartbeats 4000000
set_option maxRecDepth 100000
set_option Elab.async false
set_option linter.unusedVariables false
/-- the cells that it holds, over base: the names N with the values σ -/
structure Cap (base : Heap) (scope : Scope) (cl : List (Str × Addr)) (N : List Str) (σ : St) : Prop where
  inj : ∀ x y c, cl.lookup x = some c → cl.lookup y = some c → x = y
  has : ∀ x, scope.names.lookup x = some .free → ∃ c, cl.lookup x = some c
  cell : ∀ x c, cl.lookup x = some c → ∃ v, base.IsCell c v
  val : ∀ (i : Nat) (x : Str) (v : V), N[i]? = some x → σ[i]? = some (some v) → scope.names.lookup x = some .free ∧ ∃ u c, RelV v u ∧ cl.lookup x = some c ∧ base.IsCell c (some u)
  len : σ.length = N.length
structure LamS (scope : Scope) : Prop where
  kind : scope.kind = .function
  co : scope.isCoroutine = false
  gen : scope.isGenerator = false
  nocell : ∀ y ∈ scope.names, y.2 ≠ .cell
section
variable {P : Program} {w : World} {K : PySem.W.Frag} {mg : Str → Option Value} {base : Heap} {N : List Str} {qual : Str} {scope : Scope} {cl : List (Str × Addr)} {f : Addr} {cd : Value} {A : Around} {outer : List Env} {s : Shared} {H : Hp} {E : XK} {σ : St}
end
end L2
end
section
/-! A lambda is made and handed on. -/
namespace L2
open PySem PySem.Spec PyProof.Rows
set_option maxHeartbeats 4000000
set_option maxRecDepth 100000
set_option Elab.async false
set_option linter.unusedVariables false
/-- the table at T: each code object in it is known, by the name q -/
noncomputable def Tab (q : Str) (H : Hp) (T : Addr) : Prop := ∃ l : List (Pos × Addr), H T = some (.tbl (triples l).toArray) ∧ ∀ x ∈ l, ∃ oc vs t, H x.2 = some (Fz x.2 oc) ∧ oc.data = .fields vs ∧ vs[1]? = some (.str q t)
noncomputable abbrev lamQ (X : Cx) : Str := X.env.qual ++ "<lambda>"
structure LamAt (X : Cx) (T : Addr) (params : Arguments) (body : Expr) (scope : Scope) (H : Hp) (f : Addr) (H' : Hp) : Prop where
  new : H f = none
  grow : ∀ b u, b ≠ T → H b = some u → H' b = some u
  tab : Tab (lamQ X) H' T
  ob : ∃ cl pm c' ctv oc vs t, H' f = some (Fz f (PySem.W.kla_obj "<lambda>" (lamQ X) params body scope cl pm c' ctv)) ∧ H' c' = some (Fz c' oc) ∧ oc.data = .fields vs ∧ vs[1]? = some (.str (lamQ X) t) ∧
    (∀ x c, cl.lookup x = some c → X.env.cells.lookup x = some c) ∧ ∀ x, (x, NameKind.free) ∈ scope.names → ∃ c, cl.lookup x = some c
section
variable {X : Cx} {T c : Addr} {params : Arguments} {body : Expr} {scope : Scope} {pos : Pos}
end
end L2
end
section
/-! f(lambda: ..), f one that calls what it is given: over a greater base, in which the cells lie. -/
namespace L2
open PySem PySem.Spec PyProof.Rows
set_option maxHeartbeats 4000000
set_option maxRecDepth 100000
set_option Elab.async false
set_option linter.unusedVariables false
open Classical in
noncomputable def outOf (base : Heap) (cl : List (Str × Addr)) (h : Heap) : List Addr := (List.range h.objs.size).filter fun a => decide (base.get? a = none ∧ ∀ x, cl.lookup x ≠ some a)
noncomputable def baseOf (base : Heap) (cl : List (Str × Addr)) (h : Heap) : Heap := lessOf (outOf base cl h) h
section
variable {base h : Heap} {cl : List (Str × Addr)} {b : Addr} {o : Obj}
end
section
variable {X : Cx} {pins : List (Addr × Obj)} {σ : St} {H : Hp} {s : Shared} {cl : List (Str × Addr)} {N : List Str} {js : List Nat} {scope : Scope}
end
section
variable {X : Cx} {T c r : Addr} {params : Arguments} {body : Expr} {scope : Scope} {x : Str} {p lpos pos : Pos} {k kr : Nat} {fd : FuncData} {px : Str} {R : VK → VK} {Ec : VK → XK} {te : XK → TE} {N : List Str} {js : List Nat} {qn : Str}
end
end L2
end
section
/-! sum of a list of ints; l.index(True) of a list of truths. -/
namespace L2
open PySem PySem.Spec PyProof.Rows
set_option maxHeartbeats 4000000
set_option maxRecDepth 100000
set_option Elab.async false
set_option linter.unusedVariables false
section
variable {X : Cx}
theorem call_sumI (hc : X.calm = true) : CallR X (.builtin "sum") (fun xs H Q => ∃ (p : Addr) (ns : List Int), xs = [.ref p] ∧ SqL X.K H p (ns.map V.int) ∧ Q (.int ns.sum) H) := by
  intro pins s σ H xs us Q I r h
  obtain ⟨p, ns, rfl, hq, q⟩ := h
  obtain ⟨u, rfl, rx⟩ := vals1 r
  cases (show u = Value.ref p from rx)
  obtain ⟨its, r', pl, hz⟩ := I.list hq
  have all : ∀ (l : List Int) (vs : List Value), Vals (l.map V.int) vs → ∃ ps : List (Int × Tok), vs = ps.map (fun p => Value.int p.1 p.2) ∧ ps.map (·.1) = l := by
    intro l
    induction l with
    | nil => intro vs v; cases v; exact ⟨[], rfl, rfl⟩
    | cons n l ih =>
      intro vs v
      cases v with
      | cons a b =>
        obtain ⟨t, rfl⟩ := a
        obtain ⟨ps, rfl, e⟩ := ih _ b
        exact ⟨(n, t) :: ps, rfl, by rw [List.map_cons, e]⟩
  obtain ⟨ps, e1, e2⟩ := all ns its r'
  have hl : s.heap.IsList p (intItems ps.toArray) := by
    have z := pl.isList
    rw [e1] at z
    have e3 : (ps.map fun p => Value.int p.1 p.2).toArray = intItems ps.toArray := by unfold intItems; simp
    rw [e3] at z
    exact z
  refine sum_intListG (I.ok.hd hc) hl fun h' tk t' hk => ?_
  rw [preSum_eq, List.take_of_length_le (by simp)]
  have e4 : ps.toArray.toList.map (·.1) = ns := e2
  rw [e4]
  exact ⟨.int ns.sum, H, I.kept hk, ⟨_, rfl⟩, q⟩
end
end L2
end
section
/-! Defs that raise, by name; the law's call where the law makes lambdas. -/
namespace L2
open PySem PySem.Spec PyProof.Rows
set_option maxHeartbeats 4000000
set_option maxRecDepth 100000
set_option Elab.async false
set_option linter.unusedVariables false
section
variable {X : Cx} {k k' : Nat} {x : Str} {ps : List Str} {sp : Sp} {e : Expr} {es : List Expr} {t : TA} {p pos : Pos} {E : XK}
end
section
variable {P : Program} {w : World} {K : PySem.W.Frag} {mg : Str → Option Value} {base : Heap}
end
end L2
end
section
/-! f(lambda: ..) with the scopes by name. -/
namespace L2
open PySem PySem.Spec PyProof.Rows
set_option maxHeartbeats 4000000
set_option maxRecDepth 100000
set_option Elab.async false
set_option linter.unusedVariables false
section
variable {X : Cx} {T c : Addr} {params : Arguments} {body : Expr} {scope sc : Scope} {x : Str} {p lpos pos : Pos} {k kr k' : Nat} {px : Str} {R : VK → VK} {Ec : VK → XK} {te : XK → TE} {N N0 : List Str} {js : List Nat}
end
end L2
end
section
/-! sum of a tuple of ints. -/
namespace L2
open PySem PySem.Spec PyProof.Rows
set_option maxHeartbeats 4000000
set_option maxRecDepth 100000
set_option Elab.async false
set_option linter.unusedVariables false
/-- values that stand for ints, with their marks -/
theorem vals_marks : ∀ (l : List Int) (vs : List Value), Vals (l.map V.int) vs → ∃ ps : List (Int × Tok), vs = ps.map (fun p => Value.int p.1 p.2) ∧ ps.map (·.1) = l
  | [], vs, v => by cases v; exact ⟨[], rfl, rfl⟩
  | n :: l, vs, v => by
    cases v with
    | cons a b =>
      obtain ⟨t, rfl⟩ := a
      obtain ⟨ps, rfl, e⟩ := vals_marks l _ b
      exact ⟨(n, t) :: ps, rfl, by rw [List.map_cons, e]⟩
section
variable {X : Cx}
theorem call_sumT (hc : X.calm = true) : CallR X (.builtin "sum") (fun xs H Q => ∃ (p : Addr) (ns : List Int), xs = [.ref p] ∧ SqT X.K H p (ns.map V.int) ∧ Q (.int ns.sum) H) := by
  intro pins s σ H xs us Q I r h
  obtain ⟨p, ns, rfl, hq, q⟩ := h
  obtain ⟨u, rfl, rx⟩ := vals1 r
  cases (show u = Value.ref p from rx)
  obtain ⟨its, r', pl, hz⟩ := I.tuple hq
  obtain ⟨ps, e1, e2⟩ := vals_marks ns its r'
  have ht : s.heap.IsTuple p (intItems ps.toArray) := by
    have z : s.heap.IsTuple p its.toArray := pl
    rw [e1] at z
    have e3 : (ps.map fun p => Value.int p.1 p.2).toArray = intItems ps.toArray := by unfold intItems; simp
    rw [e3] at z
    exact z
  refine PySem.W.ktm_sumG (I.ok.hd hc) ht fun h' tk t' hk => ?_
  rw [preSum_eq, List.take_of_length_le (by simp)]
  have e4 : ps.toArray.toList.map (·.1) = ns := e2
  rw [e4]
  exact ⟨.int ns.sum, H, I.kept hk, ⟨_, rfl⟩, q⟩
end
end L2
end
section
/-! A loop over any iterator whose items are known. -/
namespace L2
open PySem PySem.Spec PyProof.Rows
set_option maxHeartbeats 4000000
set_option Elab.async false
set_option linter.unusedVariables false
theorem for_items {J : It} {g : TG} {tb : TS} {D : Ends} {σ : St} {H : Hp} (n : Nat) (itm : Nat → Hp → V → Prop) (Pv : Nat → St → Hp → Prop) (h0 : Pv 0 σ H)
    (items : ∀ i σ H, i ≤ n → Pv i σ H → (i < n → J.go i H ∧ ∀ x H2, J.yld i H x H2 → Same H H2 ∧ itm i H2 x) ∧ (n ≤ i → J.stop i H))
    (hs : ∀ i x σ H H2, i < n → Pv i σ H → Same H H2 → itm i H2 x → g x σ H2 fun σ2 H3 => tb { D with nx := Pv (i + 1), ct := Pv (i + 1), bk := D.nx } σ2 H3) (hd : ∀ σ H, Pv n σ H → D.nx σ H) :
    ∃ W : Nat → Nat → St → Hp → Prop, (∃ m, W 0 m σ H) ∧ ∀ i m σ H, W i m σ H →
      (J.stop i H ∧ D.nx σ H) ∨ (J.go i H ∧ ∃ N : St → Hp → Prop, (∀ σ' H', N σ' H' → ∃ m', m' < m ∧ W (i + 1) m' σ' H') ∧ ∀ x H', J.yld i H x H' → g x σ H' fun σ2 H2 => tb { D with nx := N, ct := N, bk := D.nx } σ2 H2) := by
  refine ⟨fun i m σ H => m + i = n ∧ Pv i σ H, ⟨n, rfl, h0⟩, fun i m σ H hw => ?_⟩
  obtain ⟨e, p⟩ := hw
  have it := items i σ H (by omega) p
  cases m with
  | zero =>
    obtain rfl : i = n := by omega
    exact .inl ⟨it.2 (Nat.le_refl _), hd σ H p⟩
  | succ m =>
    obtain ⟨go, yl⟩ := it.1 (by omega)
    refine .inr ⟨go, Pv (i + 1), fun σ' H' q => ⟨m, Nat.lt_succ_self _, by omega, q⟩, fun x H' y => ?_⟩
    obtain ⟨sm, im⟩ := yl x H' y
    exact hs i x σ H H' (by omega) p sm im
end L2
end
section
/-! Tuples of pairs held side by side. -/
namespace L2
open PySem PySem.Spec PyProof.Rows
set_option maxHeartbeats 4000000
set_option maxRecDepth 100000
set_option Elab.async false
set_option linter.unusedVariables false
/-- a row of pairs -/
noncomputable def Prs (H : Hp) (xs : List V) (bl : List (Int × Int)) : Prop := xs.length = bl.length ∧ ∀ (j : Nat) (b : Int × Int), bl[j]? = some b → ∃ p, xs[j]? = some (.ref p) ∧ H p = some (.tup [.int b.1, .int b.2])
section
variable {X : Cx}
end
end L2
end
section
/-! sorted(l) of a list of pairs of ints whose first ones are all unlike. -/
namespace L2
open PySem PySem.Spec PySem.W PyProof.Rows
set_option maxHeartbeats 4000000
set_option maxRecDepth 100000
set_option Elab.async false
set_option linter.unusedVariables false
/-- at v stands the tuple (a, b) -/
noncomputable def PairAt (h : Heap) (v : Value) (a b : Int) : Prop := ∃ (x : Addr) (o : Obj) (k : Nat) (t u : Tok), v = .ref x ∧ h.get? x = some o ∧ o.cls = .type "tuple" ∧ o.data = .seq #[.int a t, .int b u] k
noncomputable def pOut (p : Array Nat) (vs : List Value) : Array Value := (p.toList.map fun i => vs.getD i Value.none).toArray
section
variable {prog : Program} {w : World} {A : Around} {E : Value → Shared → Prop} {s : Shared}
theorem pair_lt {v v' : Value} {a b a' b' : Int} {Q : Bool → Shared → Prop} (h : PairAt s.heap v a b) (h' : PairAt s.heap v' a' b') (e : a = a' → b = b') (q : Q (decide (a < a')) s) : wpAny (model prog w) A (keyLt' (tuples' true) v v') Q E s := by
  obtain ⟨x, o, k, t, u, rfl, ho, hc, hd⟩ := h
  obtain ⟨x', o', k', t', u', rfl, ho', hc', hd'⟩ := h'
  refine kat_lt ho hd ho' hd' (kat_cons (wpAny_eqBool_int (kat_go (fun z => kat_yes (kat_cons (wpAny_eqBool_int (kat_go (fun z2 => kat_yes (kat_nil ?_)) fun z2 => ?_)))) fun z => kat_no (oneLt_int q))))
  · have ea : a = a' := by simpa using z
    rw [decide_eq_false (by omega)] at q
    exact q
  · have ea : a = a' := by simpa using z
    have := e ea
    simp [this] at z2
theorem tups_of {vs : List Value} {ks : List (Int × Int)} (hl : vs.length = ks.length) (h : ∀ (i : Nat) v k, vs[i]? = some v → ks[i]? = some k → PairAt s.heap v k.1 k.2) : ∃ fs : List Value, KatTups s.heap vs fs ∧ fs.length = vs.length ∧ ∀ f ∈ fs, ∃ i t, f = .int i t := by
  induction vs generalizing ks with
  | nil => exact ⟨[], .nil, rfl, fun f hf => absurd hf List.not_mem_nil⟩
  | cons v vs ih =>
    cases ks with
    | nil => simp at hl
    | cons k ks =>
      obtain ⟨fs, a, b, c⟩ := ih (ks := ks) (by simpa using hl) fun i v' k' x y => h (i + 1) v' k' x y
      obtain ⟨x, o, m, t, u, rfl, ho, hc, hd⟩ := h 0 v k rfl rfl
      refine ⟨.int k.1 t :: fs, .cons ho hc hd rfl a, by simp [b], fun f hf => ?_⟩
      rcases List.mem_cons.mp hf with rfl | z
      · exact ⟨_, _, rfl⟩
      · exact c f z
theorem sort_pairs {a : Addr} {vs : List Value} {ks : List (Int × Int)} {n : Nat} {Fi : PySem.Fin → Shared → Prop} (ho : s.heap.get? a = some (seqObj "list" vs.toArray n)) (hl : vs.length = ks.length) (hP : ∀ (i : Nat) v k, vs[i]? = some v → ks[i]? = some k → PairAt s.heap v k.1 k.2)
    (nd : (ks.map (·.1)).Nodup) (h64 : vs.length < 64) (h : ∀ p, Pm vs.length p → Up (fun i => (ks.getD i (0, 0)).1) p vs.length → Fi (.done (.ret .none)) { s with heap := sortedHeap s.heap a vs (pOut p vs) }) :
    wpAny (model prog w) A (Builtin.«list.sort» ⟨[.ref a], []⟩) Fi E s := by
  have ha : a < s.heap.objs.size := Heap.lt_size ho
  have emptied := get?_update_seq ho fun _ => (#[] : Array Value)
  obtain ⟨ep, ho1⟩ : ∃ ep, (s.heap.update a (Obj.mapSeq fun _ => (#[] : Array Value))).get? a = some (seqObj "list" #[] ep) := ⟨_, emptied⟩
  generalize hh : ((s.heap.update a (Obj.mapSeq fun _ => (#[] : Array Value))).push (seqObj "tuple" vs.toArray 0)).push (seqObj "list" #[] 0) = h6
  have ho6 : h6.get? a = some (seqObj "list" #[] ep) := by rw [← hh]; exact Heap.get?_push_of_some _ (Heap.get?_push_of_some _ ho1)
  have old : ∀ {x : Addr} {o : Obj}, s.heap.get? x = some o → x ≠ a → h6.get? x = some o := fun {x o} e ne => by
    rw [← hh]
    exact Heap.get?_push_of_some _ (Heap.get?_push_of_some _ (by rw [Heap.get?_update_ne _ _ _ _ ne]; exact e))
  have hP6 : ∀ (i : Nat) v k, vs[i]? = some v → ks[i]? = some k → PairAt h6 v k.1 k.2 := fun i v k y1 y2 => by
    obtain ⟨x, o, m, t, u, rfl, hx, hc, hd⟩ := hP i v k y1 y2
    refine ⟨x, o, m, t, u, rfl, old hx fun z => ?_, hc, hd⟩
    rw [z, ho] at hx
    cases hx
    exact absurd (show Value.type "list" = Value.type "tuple" from hc) (by simp)
  have last : ∀ (out : Array Value) (f : Option Value), f = none → out.size ≤ sizeLine + 1 → Fi (.done (.ret .none)) { s with heap := sortedHeap s.heap a vs out } → Fi (.done (.ret .none)) { s with heap := h6.update a (Obj.mapSeq fun _ => out) } := fun out f _ _ z => by
    rw [← hh]; exact z
  have szv : vs.length ≤ sizeLine := by rw [sizeLine_eq]; omega
  rw [list_sort_plain]
  refine wpAny_bind (listItems_at ho rfl (wpAny_bind (listUpdate_at ho rfl (wpAny_bind (seqEpoch_at ho1 rfl (wpAny_bind (wpAny_newTuple (wpAny_bind (wpAny_newList (wpAny_holding ?_) (Nat.zero_le _))) szv)))) (by rw [List.size_toArray]; exact szv) (Nat.zero_le _))))
  simp only []
  rw [hh]
  have size_of : ∀ p, Pm vs.length p → (pOut p vs).size = vs.length := fun p hp => by
    unfold pOut
    rw [List.size_toArray, List.length_map, Array.length_toList, hp.size]
  by_cases c : vs.toArray.size < 2
  · rw [if_pos c, if_pos c]
    refine wpAny_bind (wpAny_pure ?_)
    rw [StateT.run_pure]
    refine wpAny_bind (wpAny_pure ?_)
    dsimp only
    have hp : Pm vs.length (List.range vs.length).toArray := ⟨by simp⟩
    have eo : (arrOf (SortSt.mk' general' (vs.toArray.zip vs.toArray) #[] 7 none)).map (·.2) = pOut (List.range vs.length).toArray vs := by
      show (vs.toArray.zip vs.toArray).map (·.2) = _
      unfold pOut
      apply Array.toList_inj.mp
      apply List.ext_getElem?
      intro i
      simp
      by_cases z : i < vs.length
      · simp [z]
      · simp [z]
    rw [eo]
    refine wpAny_bind (seqEpoch_at ho6 rfl (wpAny_bind (listUpdate_at ho6 rfl ?_ (Nat.zero_le _) (by rw [size_of _ hp]; omega))))
    simp only [bne_self_eq_false, Bool.false_eq_true, if_false]
    refine wpAny_pure (last _ none rfl (by rw [size_of _ hp]; omega) (h _ hp fun j h1 h2 => ?_))
    rw [List.size_toArray] at c
    omega
  · rw [if_neg c, if_neg c]
    rw [List.size_toArray] at c
    obtain ⟨fs, ft, fl, fi⟩ := tups_of (s := { s with heap := h6 }) hl hP6
    refine wpAny_bind (kat_kind (T := .type "int") ft (by omega) (fun v hv => ?_) (by decide) ?_)
    · obtain ⟨i, t, rfl⟩ := fi v hv
      exact .now
    have inj : ∀ i j, i < vs.length → j < vs.length → (ks.getD i (0, 0)).1 = (ks.getD j (0, 0)).1 → i = j := fun i j hi hj e => by
      have pw := List.pairwise_iff_getElem.mp nd
      have g : ∀ k, k < vs.length → ∃ h : k < (ks.map (·.1)).length, (ks.map (·.1))[k] = (ks.getD k (0, 0)).1 := fun k hk => by
        have hk' : k < ks.length := by omega
        refine ⟨by rw [List.length_map]; exact hk', ?_⟩
        rw [List.getElem_map, List.getD_eq_getElem?_getD, List.getElem?_eq_getElem hk']
        rfl
      obtain ⟨a1, b1⟩ := g i hi
      obtain ⟨a2, b2⟩ := g j hj
      rcases Nat.lt_trichotomy i j with z | z | z
      · exact absurd (by rw [b1, b2]; exact e) (pw i j a1 a2 z)
      · exact z
      · exact absurd (by rw [b1, b2]; exact e.symm) (pw j i a2 a1 z)
    have told : Told (kas_ask prog w A (tuples' (Value.type "int" != Value.type "tuple")) vs) (fun i => (ks.getD i (0, 0)).1) (fun s' => s' = { s with heap := h6 }) vs.length := fun i j C s' hi hj hs q => by
      subst hs
      have at_ : ∀ k, k < vs.length → PairAt h6 (vs.getD k Value.none) (ks.getD k (0, 0)).1 (ks.getD k (0, 0)).2 := fun k hk => by
        have hk' : k < ks.length := by omega
        have := hP6 k _ _ (List.getElem?_eq_getElem hk) (List.getElem?_eq_getElem hk')
        rw [List.getD_eq_getElem?_getD, List.getD_eq_getElem?_getD, List.getElem?_eq_getElem hk, List.getElem?_eq_getElem hk']
        exact this
      refine pair_lt (at_ i hi) (at_ j hj) (fun e => by rw [inj i j hi hj e]) (q _ rfl)
    refine wpAny_bind (wpAny_mono (kat_run (Q := fun st' s' => ∃ p : Array Nat, arrOf st' = p.map (kas_item (vs.toArray.zip vs.toArray)) ∧ failedOf st' = none ∧ s' = { s with heap := h6 } ∧ Pm vs.length p ∧ Up (fun i => (ks.getD i (0, 0)).1) p vs.length)
      rfl (by omega) h64 (fun p st' s' _ a2 a3 a4 => ⟨p, a2, a3, a4⟩) (go_sort told (by omega) inj rfl fun p s' hs hp up => ⟨hs, hp, up⟩)) ?_ fun _ _ e => e)
    rintro ⟨⟨⟩, st'⟩ s' ⟨p, har, hf, rfl, hp, up⟩
    dsimp only
    have eo : (arrOf st').map (·.2) = pOut p vs := kat_snds rfl har
    rw [eo]
    refine wpAny_bind (seqEpoch_at ho6 rfl (wpAny_bind (listUpdate_at ho6 rfl ?_ (Nat.zero_le _) (by rw [size_of _ hp]; omega))))
    rw [hf]
    simp only [bne_self_eq_false, Bool.false_eq_true, if_false]
    exact wpAny_pure (last _ none rfl (by rw [size_of _ hp]; omega) (h p hp up))
end
end L2
namespace L2
open PySem PySem.Spec PySem.W PyProof.Rows
set_option maxHeartbeats 4000000
set_option maxRecDepth 100000
noncomputable def rSortP : List V → Hp → VK → Prop := fun xs H Q => ∃ (a : Addr) (ys : List V) (bl : List (Int × Int)), xs = [.ref a] ∧ H a = some (.lst ys) ∧ Prs H ys bl ∧ (bl.map (·.1)).Nodup ∧ bl.length < 64 ∧
  ∀ (bl' : List (Int × Int)) (zs : List V) (l : Addr), bl'.Perm bl → bl'.Pairwise (fun x y => x.1 < y.1) → Prs H zs bl' → H l = none → Q (.ref l) (upd H l (.lst zs))
theorem call_sortP {X : Cx} : CallR X (.builtin "sorted") rSortP := by
  intro pins s σ H xs us Q I r h
  obtain ⟨a, ys, bl, rfl, ha, pr, nd, h64, q⟩ := h
  obtain ⟨u, rfl, rx⟩ := vals1 r
  cases (show u = Value.ref a from rx)
  obtain ⟨hz, vs, n, rv, ho⟩ : ys.length ≤ sizeLine ∧ ∃ (its : List Value) (n : Nat), Vals ys its ∧ s.heap.get? a = some { cls := .type "list", data := .seq its.toArray n } := I.hok a _ ha
  have lv : vs.length = bl.length := by rw [← pr.1]; exact rv.length.symm
  have szv : vs.length ≤ sizeLine := by rw [sizeLine_eq]; omega
  have hP : ∀ (i : Nat) v k, vs[i]? = some v → bl[i]? = some k → PairAt s.heap v k.1 k.2 := fun i v k e1 e2 => by
    obtain ⟨p, e3, hp⟩ := pr.2 i k e2
    obtain ⟨u, e4, ru⟩ := rv.get e3
    rw [e1] at e4
    have ev : v = .ref p := (Option.some.inj e4).trans (show u = Value.ref p from ru)
    obtain ⟨_, its, rt, o, g1, g2, k2, g3⟩ : [V.int k.1, V.int k.2].length ≤ sizeLine ∧ ∃ its : List Value, Vals [.int k.1, .int k.2] its ∧ IsTup s.heap p its.toArray := I.hok p _ hp
    obtain ⟨w1, w2, rfl, r1, r2⟩ := rt.two
    obtain ⟨t1, rfl⟩ := (show ∃ t, w1 = Value.int k.1 t from r1)
    obtain ⟨t2, rfl⟩ := (show ∃ t, w2 = Value.int k.2 t from r2)
    exact ⟨p, o, k2, t1, t2, ev, g1, g2, g3⟩
  refine Calls.call_function_entry kind_sorted plain_sorted entry_sorted (args_sorted1 _) ?_
  unfold Builtin.«sorted»
  refine wpAny_bind (m := checkCount "sorted" 1 1 _) (wpAny_pure (wpAny_bind (collect_list (vs := vs) ⟨_, ho, rfl, n, rfl⟩ ?_ szv)))
  have old1 : ∀ b o, s.heap.get? b = some o → ((s.heap.push (seqObj "list" #[] 0)).update s.heap.objs.size (Obj.mapSeq (· ++ vs.toArray))).get? b = some o := fun b o e => by
    rw [Heap.get?_update_ne _ _ _ _ (Nat.ne_of_lt (Heap.lt_size e))]
    exact Heap.get?_push_of_some _ e
  have sz1 : s.heap.objs.size ≤ ((s.heap.push (seqObj "list" #[] 0)).update s.heap.objs.size (Obj.mapSeq (· ++ vs.toArray))).objs.size := by
    rw [Heap.size_update, size_push']
    exact Nat.le_succ _
  generalize (s.heap.push (seqObj "list" #[] 0)).update s.heap.objs.size (Obj.mapSeq (· ++ vs.toArray)) = h1 at old1 sz1 ⊢
  refine wpAny_bind (wpAny_newList ?_ szv)
  have hoL : (h1.push (seqObj "list" vs.toArray 0)).get? h1.objs.size = some (seqObj "list" vs.toArray 0) := Heap.get?_push_size _ rfl
  refine wpAny_bind (wpAny_holding (wpAny_call_entry slot_list_sort ⟨_, hoL, rfl⟩ entry_list_sort (sort_pairs (s := { s with heap := h1.push (seqObj "list" vs.toArray 0) }) (ks := bl) hoL lv (fun i v k e1 e2 => ?_) nd (by omega) fun p hp up => ⟨_, rfl, ?_⟩) (args_list_sort _)))
  · obtain ⟨x, o, m, t, u, e, g, c⟩ := hP i v k e1 e2
    exact ⟨x, o, m, t, u, e, Heap.get?_push_of_some _ (old1 _ _ g), c⟩
  obtain ⟨e, he⟩ := sortedHeap_at (out := pOut p vs) hoL
  have old : ∀ b o, s.heap.get? b = some o → (sortedHeap (h1.push (seqObj "list" vs.toArray 0)) h1.objs.size vs (pOut p vs)).get? b = some o := fun b o eb => by
    have lt := Nat.lt_of_lt_of_le (Heap.lt_size eb) sz1
    rw [sortedHeap_old (h := h1.push (seqObj "list" vs.toArray 0)) (b := b) (Nat.ne_of_lt lt) (by rw [Heap.size_push]; exact Nat.lt_succ_of_lt lt)]
    exact Heap.get?_push_of_some _ (old1 _ _ eb)
  have inside : ∀ i, i ∈ p.toList → i < bl.length := fun i hi => by
    have := List.mem_range.mp (hp.perm.mem_iff.mp hi)
    omega
  have pt : ∀ i, i < bl.length → ∃ x, ys.getD i V.non = .ref x ∧ H x = some (.tup [.int (bl.getD i (0, 0)).1, .int (bl.getD i (0, 0)).2]) ∧ vs.getD i Value.none = .ref x := fun i hi => by
    obtain ⟨x, e1, e2⟩ := pr.2 i _ (List.getElem?_eq_getElem hi)
    obtain ⟨u, e4, ru⟩ := rv.get e1
    refine ⟨x, ?_, ?_, ?_⟩
    · rw [List.getD_eq_getElem?_getD, e1]; rfl
    · rw [List.getD_eq_getElem?_getD, List.getElem?_eq_getElem hi]; exact e2
    · rw [List.getD_eq_getElem?_getD, e4]; exact (show u = Value.ref x from ru)
  have rz : Vals (p.toList.map fun i => ys.getD i V.non) (p.toList.map fun i => vs.getD i Value.none) := by
    have : ∀ l : List Nat, (∀ i ∈ l, i < bl.length) → Vals (l.map fun i => ys.getD i V.non) (l.map fun i => vs.getD i Value.none) := fun l => by
      induction l with
      | nil => intro _; exact .nil
      | cons i l ih =>
        intro hl
        obtain ⟨x, e1, _, e2⟩ := pt i (hl i List.mem_cons_self)
        refine .cons ?_ (ih fun j hj => hl j (List.mem_cons_of_mem _ hj))
        show RelV (ys.getD i V.non) (vs.getD i Value.none)
        rw [e1, e2]
        rfl
    exact this _ inside
  have lp : p.toList.length = bl.length := by rw [Array.length_toList, hp.size, lv]
  have fin := q (p.toList.map fun i => bl.getD i (0, 0)) (p.toList.map fun i => ys.getD i V.non) h1.objs.size ?_ ?_ ?_ (I.hok.fresh sz1)
  · refine wpAny_pure ⟨_, rfl, .ref h1.objs.size, _, I.laid (a := h1.objs.size) (t' := s.toks) (o := .lst (p.toList.map fun i => ys.getD i V.non)) old sz1 ?_, rfl, fin⟩
    exact ⟨by rw [List.length_map, lp, sizeLine_eq]; omega, _, e, rz, he⟩
  · have h2 : (List.range vs.length).map (fun i => bl.getD i (0, 0)) = bl := by
      apply List.ext_getElem?
      intro i
      rw [List.getElem?_map, lv]
      by_cases z : i < bl.length
      · rw [List.getElem?_range z, List.getElem?_eq_getElem z]
        show some (bl.getD i (0, 0)) = _
        rw [List.getD_eq_getElem?_getD, List.getElem?_eq_getElem z]
        rfl
      · rw [List.getElem?_eq_none (by simpa using z), List.getElem?_eq_none (by omega)]
        rfl
    have h3 := hp.perm.map fun i => bl.getD i (0, 0)
    rw [h2] at h3
    exact h3
  · rw [List.pairwise_map]
    refine List.pairwise_iff_getElem.mpr fun i j hi hj hij => ?_
    have ei : p.getD i 0 = p.toList[i] := by simp [Array.getD, show i < p.size by simpa using hi]
    have ej : p.getD j 0 = p.toList[j] := by simp [Array.getD, show j < p.size by simpa using hj]
    have := up.lt' hij (by rw [lv, ← lp]; exact hj)
    rw [ei, ej] at this
    exact this
  · refine ⟨by rw [List.length_map, List.length_map], fun j b hb => ?_⟩
    rw [List.getElem?_map] at hb
    cases ej : p.toList[j]? with
    | none => rw [ej] at hb; cases hb
    | some i =>
      rw [ej] at hb
      cases hb
      obtain ⟨x, e1, e2, _⟩ := pt i (inside i (List.mem_of_getElem? ej))
      refine ⟨x, ?_, e2⟩
      rw [List.getElem?_map, ej]
      exact congrArg some e1
end L2
end
section
/-! Lists of pairs held side by side. -/
namespace L2
open PySem PySem.Spec PyProof.Rows
set_option maxHeartbeats 4000000
set_option maxRecDepth 100000
set_option Elab.async false
set_option linter.unusedVariables false
section
variable {X : Cx}
end
end L2
end
section
/-! Lists of ints held side by side: unlike. -/
namespace L2
open PySem PySem.Spec PyProof.Rows
set_option maxHeartbeats 4000000
set_option maxRecDepth 100000
set_option Elab.async false
set_option linter.unusedVariables false
section
variable {X : Cx}
noncomputable def rNeL (K : PySem.W.Frag) : R2 := fun x y H Q => ∃ (a b : Addr) (ns ms : List Int), x = .ref a ∧ y = .ref b ∧ SqL K H a (ns.map V.int) ∧ SqL K H b (ms.map V.int) ∧ ns.length = ms.length ∧ Q (.bl (!decide (ns = ms))) H
theorem op_neL (hu : X.A.units < cLine) : OpR X (compareOp .NotEq) (rNeL X.K) := by
  intro pins s σ H x y v u Q I rx ry h
  obtain ⟨a, b, ns, ms, rfl, rfl, ha, hb, hl, q⟩ := h
  cases rx
  cases ry
  obtain ⟨its, r1, p1, _⟩ := I.list ha
  obtain ⟨its2, r2, p2, _⟩ := I.list hb
  have l1 := r1.length
  have l2 := r2.length
  rw [List.length_map] at l1 l2
  refine of_rcne' (SeqAt.RcNeAt.lists p1.isList p2.isList (by simp only [List.size_toArray]; omega) hu (ints_eqAt r1 r2)) ?_
  have e := all_same ns ms
  rw [hl, Nat.min_self, beq_self_eq_true, Bool.and_true] at e
  simp only [List.size_toArray]
  rw [← l1, hl, e]
  exact ⟨.bl (!decide (ns = ms)), H, I, rfl, q⟩
end
end L2
end
section
/-! l == []. -/
namespace L2
open PySem PySem.Spec PyProof.Rows
set_option maxHeartbeats 4000000
set_option Elab.async false
set_option linter.unusedVariables false
section
variable {X : Cx}
noncomputable def rEqNil (K : PySem.W.Frag) : R2 := fun x y H Q => ∃ (a b : Addr) (xs : List V), x = .ref a ∧ y = .ref b ∧ SqL K H a xs ∧ SqL K H b [] ∧ Q (.bl xs.isEmpty) H
theorem op_eqNil (hu : X.A.units < cLine) : OpR X (compareOp .Eq) (rEqNil X.K) := by
  intro pins s σ H x y v u Q I rx ry h
  obtain ⟨a, b, xs, rfl, rfl, ha, hb, q⟩ := h
  cases rx
  cases ry
  obtain ⟨its, r1, p1, _⟩ := I.list ha
  obtain ⟨its2, r2, p2, _⟩ := I.list hb
  cases r2
  cases r1 with
  | nil => exact SeqAt.eq_listAt (e := fun _ => true) p1.isList p2.isList rfl hu (fun j h1 => absurd h1 (by simp)) ⟨.bl true, H, I, rfl, q⟩
  | cons h t => exact SeqAt.eq_list_lengthsAt p1.isList p2.isList (by simp) hu ⟨.bl false, H, I, rfl, q⟩
end
end L2
end
section
/-! A comprehension within a comprehension's element: the outer target is a cell. -/
namespace L2
open PySem PySem.Spec PyProof.Rows
set_option maxHeartbeats 4000000
set_option maxRecDepth 100000
set_option Elab.async false
set_option linter.unusedVariables false
noncomputable abbrev cell0 : Obj := { cls := .type "cell", data := .cell none }
theorem relab_back1 {env : Env} {t : Str} : ∀ {ns : List (Str × NameKind)} {x : Str} {k : NameKind}, (∀ y ∈ ns, y.2 = .cell → y.1 = t) → (k = .cell ∨ k = .free) →
    (ns.map fun (n, k) => if (k == NameKind.free && env.scope.kind == .function && env.kindOf n == some .cell) then (n, NameKind.cell) else (n, k)).lookup x = some k → x = t ∨ (x, NameKind.free) ∈ ns
  | [], _, _, _, _, h => by simp at h
  | (n, k') :: r, x, k, nc, hk, h => by
    rw [List.map_cons] at h
    have ih := relab_back1 (env := env) (t := t) (ns := r) (x := x) (k := k) (fun y hy => nc y (List.mem_cons_of_mem _ hy)) hk
    cases e : x == n with
    | true =>
      have ex : x = n := by simpa using e
      subst ex
      cases k' with
      | free => exact .inr List.mem_cons_self
      | cell => exact .inl (nc (x, .cell) List.mem_cons_self rfl)
      | _ =>
        dsimp only at h
        rw [if_neg (by simp), List.lookup_cons, e] at h
        rcases hk with z | z <;> (subst z; simp at h)
    | false =>
      dsimp only at h
      have h' : (r.map fun (n, k) => if (k == NameKind.free && env.scope.kind == .function && env.kindOf n == some .cell) then (n, NameKind.cell) else (n, k)).lookup x = some k := by
        split at h <;> (rw [List.lookup_cons, e] at h; exact h)
      exact (ih h').elim .inl fun z => .inr (List.mem_cons_of_mem _ z)
/-- the context of a block whose target t is a cell -/
noncomputable def blk1 (X : Cx) (t : Str) (N : List Str) (scope : Scope) (cl : List (Str × Addr)) (C : Addr) (s : Shared) (H : Hp) (fp : List Addr) : Cx := { blk X N scope cl C s H fp with fn := fun x => x == t }
structure Blk1 (t : Str) (sc : Scope) (N0 : List Str) (N : List Str) (nt : Nat) (js : List Nat) (scope : Scope) : Prop where
  kind : scope.kind = .function
  loc : ∀ y ∈ scope.names, y.2 = .local → scope.names.lookup y.1 = some .local
  one : ∀ n cl, cellsFrom n scope.names cl = (t, n) :: cl
  lay : ∀ h, pushCells h scope.names = h.push cell0
  only : ∀ y ∈ scope.names, y.2 = .cell → y.1 = t
  cap : ∀ y ∈ scope.names, y.2 = .free → sc.names.lookup y.1 = some .cell ∨ sc.names.lookup y.1 = some .free
  nf : ∀ y ∈ scope.names, y.2 = .free → y.1 ≠ t
  len : N.length = nt + js.length
  out : N.drop nt = js.map fun j => N0.getD j ""
  js : ∀ j ∈ js, j < N0.length
  fr : ∀ x ∈ N.drop nt, scope.names.lookup x = some .free
  nd : N.Nodup
section
variable {M : Model} {A : Around} {E : Value → Shared → Prop} {s : Shared}
/-- a block's own frame and its cell -/
theorem env_cell {scope : Scope} {gl : Addr} {cl : List (Str × Addr)} {qual : Str} {env : Env} {t : Str} {Q : Env → Shared → Prop} (one : ∀ n cl, cellsFrom n scope.names cl = (t, n) :: cl) (lay : ∀ h, pushCells h scope.names = h.push cell0)
    (q : Q (newEnv scope s.heap.objs.size gl ((t, s.heap.objs.size + 1) :: cl) qual none .none (some env) builtinsNs) { s with heap := (s.heap.push { cls := .type "dict", data := .dict #[] }).push cell0 }) :
    wpAny M A (newFunctionEnv scope gl cl [] qual none .none (some env)) Q E s := by
  unfold newFunctionEnv
  refine wpAny_bind (wpAny_alloc (wpAny_bind (wpAny_layCells _ (fun _ _ _ => rfl) scope.names cl _ _ ?_)))
  rw [one, lay]
  have e : (s.heap.push { cls := .type "dict", data := .dict #[] }).objs.size = s.heap.objs.size + 1 := Heap.size_push ..
  rw [← e] at q
  exact wpAny_bind (wpAny_pure (wpAny_pure q))
end

section
variable {X : Cx} {pins : List (Addr × Obj)} {σ : St} {H : Hp} {s : Shared} {t : Str} {N : List Str} {nt : Nat} {js : List Nat} {scope : Scope} {cl : List (Str × Addr)} {fp : List Addr}
theorem look_ne {t x : Str} {c : Addr} {cl : List (Str × Addr)} (h : x ≠ t) : ((t, c) :: cl).lookup x = cl.lookup x := by
  rw [List.lookup_cons, show (x == t) = false from beq_eq_false_iff_ne.mpr h]
theorem look_at {t : Str} {c : Addr} {cl : List (Str × Addr)} : ((t, c) :: cl).lookup t = some c := by
  rw [List.lookup_cons, show (t == t) = true from beq_self_eq_true t]
theorem look_or {t x : Str} {c c' : Addr} {cl : List (Str × Addr)} (h : ((t, c) :: cl).lookup x = some c') : (x = t ∧ c' = c) ∨ (x ≠ t ∧ cl.lookup x = some c') := by
  by_cases e : x = t
  · subst e; rw [look_at] at h; cases h; exact .inl ⟨rfl, rfl⟩
  · rw [look_ne e] at h; exact .inr ⟨e, h⟩
theorem blk1_start {h' : Heap} {tk : Nat} (I : Inv X pins σ H s) (B : Blk1 t X.env.scope X.N N nt js scope)
    (c1 : ∀ x c, cl.lookup x = some c → X.env.cells.lookup x = some c) (c2 : ∀ x, (x, NameKind.free) ∈ scope.names → ∃ c, cl.lookup x = some c)
    (hf : ∀ b ∈ fp, FpOk X pins H b) (hlt : ∀ b ∈ fp, b < s.heap.objs.size)
    (kp : ∀ b o, s.heap.get? b = some o → h'.get? b = some o) (hC : h'.Ns (s.heap.objs.size + 1) fun _ => none) (hc : h'.IsCell (s.heap.objs.size + 2) none)
    (hD : h'.get? s.heap.objs.size = some { cls := .type "list", data := .seq ([] : List Value).toArray 0 }) :
    Inv (blk1 X t N scope ((t, s.heap.objs.size + 2) :: cl) (s.heap.objs.size + 1) s H fp) [] (inner nt js σ) (upd H s.heap.objs.size (.lst [])) { s with heap := h', toks := tk } := by
  have hfr : ∀ a, s.heap.objs.size ≤ a → H a = none := fun a ha => I.hok.fresh ha
  have cold : ∀ x c, X.env.cells.lookup x = some c → c < s.heap.objs.size := fun x c e => by
    obtain ⟨v, q⟩ := I.cell x c e
    exact q.lt
  have two : s.heap.objs.size ≤ s.heap.objs.size + 2 := Nat.le_add_right _ 2
  have far : ∀ {x c}, cl.lookup x = some c → c ≠ s.heap.objs.size + 2 := fun {x c} e z => by
    have q := cold x c (c1 x c e)
    rw [z] at q
    exact absurd (Nat.lt_of_lt_of_le q two) (Nat.lt_irrefl _)
  have inj : ∀ x y c, ((t, s.heap.objs.size + 2) :: cl).lookup x = some c → ((t, s.heap.objs.size + 2) :: cl).lookup y = some c → x = y := fun x y c a b => by
    rcases look_or a with ⟨e1, e2⟩ | ⟨_, e2⟩ <;> rcases look_or b with ⟨e3, e4⟩ | ⟨_, e4⟩
    · rw [e1, e3]
    · exact absurd e2 (far e4)
    · exact absurd e4 (far e2)
    · exact I.ok.inj x y c (c1 x c e2) (c1 y c e4)
  refine ⟨⟨I.ok.mod, B.kind, I.ok.glob, I.ok.blt, Nat.le_succ _, inj, fun x hx => ?_, fun x c z e => ?_, I.ok.hd, I.ok.frames, .inl rfl, fun b hb => ?_, I.bs, Nat.le_trans I.ok.bsz I.sz, fun b o e hb => ?_, fun b hb z => ?_, I.stack, I.stkFree⟩,
    rfl, I.bare, Un.laid kp (Nat.le_refl _) (hfr _ (Nat.le_refl _)), ⟨_, hC, fun i x v h1 h2 h3 => ?_⟩, fun x c e => ?_, ?_, fun x c e => ?_, fun p hp => absurd (show p ∈ ([] : List (Addr × Obj)) from hp) (by simp), I.hok.laid kp (Nat.le_refl _) ⟨Nat.zero_le _, [], 0, .nil, hD⟩, ?_⟩
  · have : x = t ∨ (x, NameKind.free) ∈ scope.names := hx.elim (fun z => relab_back1 B.only (.inl rfl) z) fun z => relab_back1 B.only (.inr rfl) z
    rcases this with z | z
    · rw [z]; exact ⟨s.heap.objs.size + 2, look_at⟩
    · obtain ⟨c, e⟩ := c2 x z
      exact ⟨c, (look_ne (B.nf _ z rfl)).trans e⟩
  · have xt : x = t := by simpa using (show (x == t) = true from z)
    rcases look_or (show ((t, s.heap.objs.size + 2) :: cl).lookup x = some c from e) with ⟨_, e⟩ | ⟨ne, _⟩
    · rw [e]; exact two
    · exact absurd xt ne
  · refine ⟨Nat.ne_of_lt (Nat.lt_succ_of_lt (hlt b hb)), fun x c e => ?_⟩
    rcases look_or e with ⟨_, e⟩ | ⟨_, e⟩
    · rw [e]; exact Nat.ne_of_gt (Nat.lt_of_lt_of_le (hlt b hb) two)
    · exact (hf b hb).2.2.2.2.1 x c (c1 x c e)
  · rcases (hf b hb).2.2.2.1 with z | z
    · exact I.ok.noex b o e z
    · exact absurd (Nat.lt_of_lt_of_le (Heap.lt_size (I.ok.bs b o e).1) z) (Nat.lt_irrefl _)
  · rcases List.mem_cons.mp (I.stkSub b z) with q | q
    · exact (hf b hb).2.1 q
    · exact (hf b hb).2.2.1 q
  · obtain ⟨k, j, rfl, hk, hv⟩ := inner_get h2
    have h1' : (N.drop nt)[k]? = some x := by rw [List.getElem?_drop]; exact h1
    have hxm : x ∈ N.drop nt := List.mem_of_getElem? h1'
    have hfree : scope.names.lookup x = some .free := B.fr x hxm
    have hj : X.N[j]? = some x := by
      rw [B.out, List.getElem?_map, hk] at h1'
      have hjl : j < X.N.length := B.js j (List.mem_of_getElem? hk)
      rw [List.getElem?_eq_getElem hjl]
      have e : X.N.getD j "" = x := by simpa using h1'
      rw [← e]
      simp [List.getD_eq_getElem?_getD, List.getElem?_eq_getElem hjl]
    have hmem := PySem.mem_of_lookup hfree
    have hcap := B.cap _ hmem rfl
    obtain ⟨m, hn, hl⟩ := I.loc
    obtain ⟨u, ru, lk⟩ := hl j x v hj hv (hcap.elim (fun z => .inr (.inl z)) fun z => .inr (.inr z))
    refine ⟨u, ru, .inr ⟨relab_free hfree, ?_⟩⟩
    rcases lk with ⟨z, _⟩ | ⟨_, c, e, q⟩
    · exact absurd (show X.env.scope.names.lookup x = some .local from z) (by rcases hcap with y | y <;> (rw [y]; decide))
    · obtain ⟨c', e'⟩ := c2 x hmem
      have ec := c1 x c' e'
      rw [e] at ec
      cases ec
      obtain ⟨o, ho, hd⟩ := q
      exact ⟨c, (look_ne (B.nf _ hmem rfl)).trans e', o, kp c o ho, hd⟩
  · rcases look_or e with ⟨_, e⟩ | ⟨_, e⟩
    · exact ⟨none, e ▸ hc⟩
    · obtain ⟨v, o, ho, hd⟩ := I.cell x c (c1 x c e)
      exact ⟨v, o, kp c o ho, hd⟩
  · show upd H _ _ (s.heap.objs.size + 1) = none
    rw [upd_ne (Nat.ne_of_gt (Nat.lt_succ_self _))]
    exact hfr _ (Nat.le_succ _)
  · show upd H _ _ c = none
    rcases look_or e with ⟨_, e⟩ | ⟨_, e⟩
    · rw [e, upd_ne (Nat.ne_of_gt (Nat.lt_succ_of_lt (Nat.lt_succ_self _)))]
      exact hfr _ two
    · rw [upd_ne (Nat.ne_of_lt (cold x c (c1 x c e)))]
      exact I.freeC x c (c1 x c e)
  · show (inner nt js σ).length = N.length
    unfold inner
    rw [List.length_append, List.length_replicate, List.length_map, B.len]
end
theorem pe_compC {X : Cx} (t : Str) {elt tg iter : Expr} {ifs : List Expr} {scope : Scope} {pos : Pos} {N : List Str} {nt : Nat} {js : List Nat} {sc : Scope} {N0 : List Str} {wi : TI} {g : TG} {tt : TT} {te : TE}
    (hc : X.calm = true) (hsc : X.env.scope = sc) (hN : X.N = N0) (B : Blk1 t sc N0 N nt js scope) (hi : PI X tg iter wi)
    (hg : ∀ cl C s H fp, PG (blk1 X t N scope cl C s H fp) tg g) (ht : ∀ cl C s H fp, PTs (blk1 X t N scope cl C s H fp) ifs tt) (he : ∀ cl C s H fp, PE (blk1 X t N scope cl C s H fp) elt te)
    (hs : ∀ x, foldedSetIterable iter X.env x = pure x := by intro _; rfl) : PE X (.ListComp elt [⟨tg, iter, ifs, 0⟩] scope pos) (tComp nt js wi g tt te) := by
  subst hsc hN
  intro pins s σ H Q I h
  obtain ⟨cl, hcl, c1, c2⟩ := clos_of (env := X.env) (scope := scope) fun y hy hk => I.ok.has y.1 (B.cap y hy hk)
  rw [eval_ListComp]
  refine wpAny_comprehension_free (use := none) rfl hs hcl B.kind B.loc (thn (hi pins s σ H _ I h) fun v s1 q1 => thn q1 fun itv s2 q2 => ?_)
  obtain ⟨it, fp, tn, J, H2, e, I2, T, st2, f2, q2⟩ := q2
  subst e
  obtain ⟨W, ⟨m0, w0⟩, turn⟩ := q2 s2.heap.objs.size (I2.hok.fresh (Nat.le_refl _))
  have hlt : ∀ b ∈ fp, b < s2.heap.objs.size := fun b hb => by
    obtain ⟨o, eo, _⟩ := T.obj _ _ st2 b hb
    exact Heap.lt_size eo
  refine wpAny_newObj_type (env_cell B.one B.lay ?_)
  have hsz : (s2.heap.push { cls := .type "list", dict := none, data := .seq ([] : List Value).toArray }).objs.size = s2.heap.objs.size + 1 := by rw [Heap.size_push]
  dsimp only
  generalize hh1 : ((s2.heap.push { cls := .type "list", dict := none, data := .seq ([] : List Value).toArray }).push { cls := .type "dict", data := .dict #[] }).push cell0 = h1
  have old : ∀ b o, s2.heap.get? b = some o → h1.get? b = some o := fun b o eb => by rw [← hh1]; exact Heap.get?_push_of_some _ (Heap.get?_push_of_some _ (Heap.get?_push_of_some _ eb))
  have hD : h1.get? s2.heap.objs.size = some { cls := .type "list", data := .seq ([] : List Value).toArray 0 } := by rw [← hh1]; exact Heap.get?_push_of_some _ (Heap.get?_push_of_some _ (Heap.get?_push_size _ rfl))
  have hns : h1.Ns (s2.heap.objs.size + 1) fun _ => none := by
    have e := (Heap.Ns.new (s2.heap.push { cls := .type "list", dict := none, data := .seq ([] : List Value).toArray }) (.type "dict")).keeps fun b o q => Heap.get?_push_of_some cell0 q
    rw [hsz] at e
    rw [← hh1]
    exact e
  have hcl1 : h1.IsCell (s2.heap.objs.size + 2) none := by
    rw [← hh1]
    exact ⟨cell0, Heap.get?_push_at (by rw [Heap.size_push, hsz]) rfl, rfl⟩
  rw [hsz]
  have I3 := blk1_start (cl := cl) (fp := fp) (tk := s2.toks) I2 B c1 c2 f2 hlt old hns hcl1 hD
  have stat : ∀ {H' : Hp}, (∀ b ∈ fp, H' b = none) → ∀ b ∈ fp, FpOk (blk1 X t N scope ((t, s2.heap.objs.size + 2) :: cl) (s2.heap.objs.size + 1) s2 H2 fp) [] H' b := fun {H'} hn b hb =>
    ⟨hn b hb, Nat.ne_of_lt (Nat.lt_succ_of_lt (hlt b hb)), fun z => (List.mem_cons.mp (I2.stkSub b z)).elim (f2 b hb).2.1 (f2 b hb).2.2.1, .inl hb, fun x c ec => (look_or ec).elim (fun z => z.2 ▸ Nat.ne_of_gt (Nat.lt_of_lt_of_le (hlt b hb) (Nat.le_add_right _ 2))) (fun z => (f2 b hb).2.2.2.2.1 x c (c1 x c z.2)), fun p hp => absurd (show p ∈ ([] : List (Addr × Obj)) from hp) (by simp)⟩
  have fin : ∀ {i : Nat} {σ' : St} {H' : Hp} {s' : Shared}, Inv (blk1 X t N scope ((t, s2.heap.objs.size + 2) :: cl) (s2.heap.objs.size + 1) s2 H2 fp) [] σ' H' s' → Q (.ref s2.heap.objs.size) H' →
      compPost (model X.prog X.w) X.A X.xe none (EP X pins σ Q) (.ref s2.heap.objs.size) (s2.heap.objs.size + 1) (.ok .next) s' := fun {i σ' H' s'} Ib q => by
    obtain ⟨m, hn, _⟩ := id Ib.loc
    refine ⟨m, hn, fun h'' hs'' => ?_⟩
    have I4 : Inv X pins σ H' s' := I2.call' Ib.os Ib.base Ib.hok Ib.bare fun b hb => ⟨(f2 b hb).2.2.2.1, (f2 b hb).2.1, (f2 b hb).2.2.2.2.1, (f2 b hb).2.2.2.2.2⟩
    obtain ⟨g0, g1, g2, g3, g4, g5⟩ := I2.fpOk (H' := H') (Nat.le_succ _) Ib.free
    exact ⟨.ref s2.heap.objs.size, H', I4.turned (t' := s'.toks) (fun b o hb eb => hs''.extBut b o hb eb) g0 g1 g3 g4 g5, rfl, q⟩
  have loop : codeAny (model X.prog X.w) X.A (.compLoop (.ListComp elt [⟨tg, iter, ifs, 0⟩] scope pos) 0 (.ref it) (.ref s2.heap.objs.size) (compEnvC scope ((t, s2.heap.objs.size + 2) :: cl) (s2.heap.objs.size + 1) X.env))
      (compPost (model X.prog X.w) X.A X.xe none (EP X pins σ Q) (.ref s2.heap.objs.size) (s2.heap.objs.size + 1)) { s2 with heap := h1 } := by
    refine comp_turns (fun n s' => ∃ i σ' H', Inv (blk1 X t N scope ((t, s2.heap.objs.size + 2) :: cl) (s2.heap.objs.size + 1) s2 H2 fp) [] σ' H' s' ∧ tn i s'.heap ∧ (∀ b ∈ fp, H' b = none) ∧ W i n σ' H') ?_ m0
      ⟨0, _, _, I3, T.keep _ _ _ st2 fun b _ o eb => old b o eb, fun b hb => ?_, w0⟩
    · rintro n s3 ⟨i, σ3, H3, J3, st3, fr3, w3⟩
      rcases turn i n σ3 H3 w3 with ⟨stop, qn⟩ | ⟨go, step⟩
      · refine thn (T.done (blk1 X t N scope ((t, s2.heap.objs.size + 2) :: cl) (s2.heap.objs.size + 1) s2 H2 fp) rfl rfl rfl hc i [] s3 σ3 H3 _ J3 (stat fr3) st3 stop) fun r s4 ⟨hr, I4⟩ => ?_
        subst hr
        exact fin (i := i) I4 qn
      · refine thn (T.item (blk1 X t N scope ((t, s2.heap.objs.size + 2) :: cl) (s2.heap.objs.size + 1) s2 H2 fp) rfl rfl rfl hc i [] s3 σ3 H3 _ J3 (stat fr3) st3 go) fun r s4 ⟨u, hr, h4⟩ => ?_
        subst hr
        refine thn h4 fun _ s5 ⟨x, H5, I5, r5, y5, st5, fr5⟩ => ?_
        have I5' := I5.pinned (stat fr5) (T.obj _ _ st5)
        refine thn (hg _ _ _ _ _ _ s5 σ3 H5 x u _ I5' r5 (step x H5 y5)) fun _ s6 ⟨σ6, H6, I6, q6⟩ => ?_
        have again : ∀ {σ7 : St} {H7 : Hp} {s7 : Shared} {k : Nat}, Inv (blk1 X t N scope ((t, s2.heap.objs.size + 2) :: cl) (s2.heap.objs.size + 1) s2 H2 fp) ([] ++ pinsAt fp s5.heap) σ7 H7 s7 → k < n → W (i + 1) k σ7 H7 →
            ∃ k, k < n ∧ ∃ i σ' H', Inv (blk1 X t N scope ((t, s2.heap.objs.size + 2) :: cl) (s2.heap.objs.size + 1) s2 H2 fp) [] σ' H' s7 ∧ tn i s7.heap ∧ (∀ b ∈ fp, H' b = none) ∧ W i k σ' H' := fun {σ7 H7 s7 k} I7 hk w7 => by
          refine ⟨k, hk, i + 1, σ7, H7, I7.unpinned, T.keep _ _ _ st5 fun b hb o eb => (I7.pin (b, o) (List.mem_append_right _ (List.mem_append_right _ (mem_pinsAt hb eb)))).1, fun b hb => ?_, w7⟩
          obtain ⟨o, eb, _⟩ := T.obj _ _ st5 b hb
          exact (I7.pin (b, o) (List.mem_append_right _ (List.mem_append_right _ (mem_pinsAt hb eb)))).2.1
        refine thn (ht _ _ _ _ _ _ s6 σ6 H6 _ I6 q6) fun ok s7 ⟨H7, I7, q7⟩ => ?_
        cases ok with
        | false =>
          rw [if_neg Bool.false_ne_true] at q7 ⊢
          obtain ⟨k, hk, w7⟩ := q7
          exact again I7 hk w7
        | true =>
          rw [if_pos rfl] at q7 ⊢
          refine thn (he _ _ _ _ _ _ s7 σ6 H7 _ I7 q7) fun y s8 ⟨v8, H8, I8, r8, ys, e8, z8, k, hk, w8⟩ => ?_
          refine thn (mt_append _ s8 σ6 H8 (.ref s2.heap.objs.size) [v8] _ [y] (fun _ H9 => W (i + 1) k σ6 H9) I8 rfl (.cons r8 .nil) ⟨_, ys, v8, rfl, rfl, e8, z8, w8⟩) fun _ s9 ⟨_, H9, I9, _, w9⟩ => ?_
          exact again I9 hk w9
    · show upd H2 _ _ b = none
      rw [upd_ne (Nat.ne_of_lt (hlt b hb))]
      exact (f2 b hb).1
  exact codeAny_compStart_list loop (T.self _ 0 _ _ _ (T.keep _ _ _ st2 fun b _ o eb => old b o eb) loop)
section
variable {X : Cx} {elt iter : Expr} {ifs : List Expr} {scope : Scope} {pos : Pos} {N : List Str} {js : List Nat} {sc : Scope} {N0 : List Str} {wi : TI} {tt : TT} {te : TE} {x : Str} {px : Pos}
theorem relab_cell {env : Env} : ∀ {ns : List (Str × NameKind)} {x : Str}, ns.lookup x = some .cell →
    (ns.map fun (n, k) => if (k == NameKind.free && env.scope.kind == .function && env.kindOf n == some .cell) then (n, NameKind.cell) else (n, k)).lookup x = some .cell
  | [], _, h => by simp at h
  | (n, k) :: r, x, h => by
    rw [List.lookup_cons] at h
    rw [List.map_cons]
    dsimp only
    cases e : x == n with
    | true =>
      rw [e] at h
      have : k = .cell := by simpa using h
      subst this
      split <;> rw [List.lookup_cons, e]
    | false =>
      rw [e] at h
      split <;> (rw [List.lookup_cons, e]; exact relab_cell h)
theorem blk1_cell {cl : List (Str × Addr)} {C : Addr} {s : Shared} {H : Hp} {fp : List Addr} {t : Str} (h : scope.names.lookup x = some .cell) : (blk1 X t N scope cl C s H fp).env.scope.names.lookup x = some .cell := relab_cell h
theorem pe_compC1 (hc : X.calm = true) (hsc : X.env.scope = sc) (hN : X.N = N0) (B : Blk1 x sc N0 (x :: N) 1 js scope) (hx : scope.names.lookup x = some .cell) (hi : PI X (.Name x px) iter wi)
    (ht : ∀ cl C s H fp, PTs (blk1 X x (x :: N) scope cl C s H fp) ifs tt) (he : ∀ cl C s H fp, PE (blk1 X x (x :: N) scope cl C s H fp) elt te)
    (hs : ∀ x, foldedSetIterable iter X.env x = pure x := by intro _; rfl) : PE X (.ListComp elt [⟨.Name x px, iter, ifs, 0⟩] scope pos) (tComp 1 js wi (gName 0) tt te) :=
  pe_compC x hc hsc hN B hi (fun cl C s H fp => pg_name (i := 0) B.nd rfl (.inr (blk1_cell hx)) (.inl (beq_self_eq_true x))) ht he hs
end
/-! ### rules with the module's part written out, for use within blocks -/
section
variable {X : Cx} {tg : Expr}
noncomputable def rLenK (K : PySem.W.Frag) : List V → Hp → VK → Prop := fun xs H Q => ∃ p ys, xs = [.ref p] ∧ (SqL K H p ys ∨ SqT K H p ys) ∧ Q (.int ys.length) H
theorem call_lenK (K : PySem.W.Frag) (h : X.K = K) : CallR X (.builtin "len") (rLenK K) := by subst h; exact call_len_seq
theorem op_notInK (K : PySem.W.Frag) (h : X.K = K) : OpR X (compareOp .NotIn) (rIn K true) := by subst h; exact op_notIn_seq
theorem op_inK (K : PySem.W.Frag) (h : X.K = K) : OpR X (compareOp .In) (rIn K false) := by subst h; exact op_in_seq
theorem pi_listK (K : PySem.W.Frag) (h : X.K = K) {l : Expr} {tl : TE} (hl : PE X l tl) : PI X tg l (iList K tl) := by subst h; exact pi_list hl
theorem pi_tupK (K : PySem.W.Frag) (h : X.K = K) {l : Expr} {tl : TE} (hl : PE X l tl) : PI X tg l (iTup K tl) := by subst h; exact pi_tup hl
end
end L2
end
section
/-! A list's method, called within a block. -/
namespace L2
open PySem PySem.Spec PyProof.Rows
set_option maxHeartbeats 4000000
set_option Elab.async false
set_option linter.unusedVariables false
section
variable {X : Cx} {o e : Expr} {es : List Expr} {to : TE} {t : TA} {name : Str} {apos cpos : Pos} {T id : String} {r : V → List V → Hp → VK → Prop}
end
end L2
end
section
/-! A comprehension by an invariant, with a test. -/
namespace L2
open PySem PySem.Spec PyProof.Rows
set_option maxHeartbeats 4000000
set_option Elab.async false
set_option linter.unusedVariables false
section
variable {X : Cx} {elt iter : Expr} {ifs : List Expr} {scope : Scope} {px py tp pos pos' spos : Pos} {k ii : Nat} {x y nm : Str} {N N0 : List Str} {js : List Nat} {sc : Scope} {wi : TI} {tt : TT} {te : TE}
/-- name = [.. for x, y in ..] -/
theorem ps_comp2 (hNd : X.N.Nodup) (hii : X.N[ii]? = some nm) (hloc : Loc X.env.scope nm) (hc : X.calm = true) (hsc : X.env.scope = sc) (hN : X.N = N0) (B : Blk sc N0 (x :: y :: N) 2 js scope) (hx : scope.names.lookup x = some .local) (hy : scope.names.lookup y = some .local) (hi : PI X (.Tuple [.Name x px, .Name y py] k tp) iter wi)
    (ht : ∀ cl C s H fp, PTs (blk X (x :: y :: N) scope cl C s H fp) ifs tt) (he : ∀ cl C s H fp, PE (blk X (x :: y :: N) scope cl C s H fp) elt te)
    (hsw : swapsWith (.ListComp elt [⟨.Tuple [.Name x px, .Name y py] k tp, iter, ifs, 0⟩] scope pos) (some (.Name nm pos')) spos.line X.env = pure true := by rfl)
    (hf : X.fn nm = true ∨ X.env.scope.names.lookup nm = some .local := by first | exact .inl rfl | exact .inr rfl | assumption)
    (hs : ∀ x, foldedSetIterable iter X.env x = pure x := by intro _; rfl) : PS X (.Assign [.Name nm pos'] (.ListComp elt [⟨.Tuple [.Name x px, .Name y py] k tp, iter, ifs, 0⟩] scope pos) spos) (tSetC ii (tComp 2 js wi (gTup X.K 2 (gCons (gName 0) (gCons (gName 1) gNil))) tt te)) :=
  ps_comp hNd hii hloc hc hsc hN B hi (fun cl C s H fp => pg_tup (X := blk X (x :: y :: N) scope cl C s H fp) hc (pgs_cons (pg_name (i := 0) B.nd rfl (.inl (blk_loc hx)) (.inr (blk_loc hx))) (pgs_cons (pg_name (i := 1) B.nd rfl (.inl (blk_loc hy)) (.inr (blk_loc hy))) pgs_nil))) ht he hsw hf hs
end
end L2
end
section
/-! max of a list of ints. -/
namespace L2
open PySem PySem.Spec PyProof.Rows
set_option maxHeartbeats 4000000
set_option maxRecDepth 100000
set_option Elab.async false
set_option linter.unusedVariables false
section
variable {X : Cx}
theorem ints_of : ∀ (l : List Int) (vs : List Value), Vals (l.map V.int) vs → ∃ ps : List (Int × Tok), vs = ps.map (fun p => Value.int p.1 p.2) ∧ ps.map (·.1) = l
  | [], vs, v => by cases v; exact ⟨[], rfl, rfl⟩
  | n :: l, vs, v => by
    cases v with
    | cons a b =>
      obtain ⟨t, rfl⟩ := a
      obtain ⟨ps, rfl, e⟩ := ints_of l _ b
      exact ⟨(n, t) :: ps, rfl, by rw [List.map_cons, e]⟩
end
end L2
end
section
/-! list.count of ints. -/
namespace L2
open PySem PySem.Spec PyProof.Rows
set_option maxHeartbeats 4000000
set_option maxRecDepth 100000
set_option Elab.async false
set_option linter.unusedVariables false
section
variable {X : Cx}
noncomputable def rCount : V → List V → Hp → VK → Prop := fun x vs H Q => ∃ (l : Addr) (ns : List Int) (k : Int), x = .ref l ∧ vs = [.int k] ∧ H l = some (.lst (ns.map V.int)) ∧ Q (.int (ns.count k : Nat)) H
theorem mt_count : MtM X "list.count" rCount := by
  intro pins s σ H x vs v us Q I rx rv h
  obtain ⟨l, ns, k, rfl, rfl, hH, q⟩ := h
  cases rx
  obtain ⟨u, rfl, ru⟩ := rv.one
  obtain ⟨t, rfl⟩ := ru
  obtain ⟨z, its, n, r, hl, e⟩ := I.lstM hH
  rw [List.length_map] at hl
  have hI : IntsAre its ns := by
    refine intsAre_of (vals_of _ _ hl.symm fun j u hj => ?_)
    have jl : j < ns.length := by rw [hl]; exact (List.getElem?_eq_some_iff.mp hj).1
    obtain ⟨v, e4, rv'⟩ := r.get (show (ns.map V.int)[j]? = some (.int ns[j]) by rw [List.getElem?_map, List.getElem?_eq_getElem jl]; rfl)
    rw [hj] at e4
    cases e4
    obtain ⟨t, e5⟩ := (show ∃ t, u = Value.int ns[j] t from rv')
    exact ⟨t, ns[j], List.getElem?_eq_getElem jl, e5⟩
  exact count_list_ints ⟨_, e, rfl, n, rfl⟩ hI ⟨.int (ns.count k : Nat), H, I.tok _, ⟨_, rfl⟩, q⟩
noncomputable def rSumK (K : PySem.W.Frag) : List V → Hp → VK → Prop := fun xs H Q => ∃ (p : Addr) (ns : List Int), xs = [.ref p] ∧ SqL K H p (ns.map V.int) ∧ Q (.int ns.sum) H
/-- sum of a list, within a block -/
theorem call_sumK (K : PySem.W.Frag) (h : X.K = K) (hc : X.calm = true) : CallR X (.builtin "sum") (rSumK K) := by subst h; exact call_sumI hc
end
end L2
end
section
/-! A list comprehension of two clauses. -/
namespace L2
open PySem PySem.Spec PyProof.Rows
set_option maxHeartbeats 4000000
set_option Elab.async false
set_option linter.unusedVariables false
section
variable {elt tg iter tg' iter' : Expr} {g0 : Comprehension} {scope : Scope} {pos : Pos} {it acc : Value} {env : Env}
end
section
variable {prog : Program} {w : World} {A : Around} {s : Shared} {R : Result → Shared → Prop} {elt tg iter tg' iter' : Expr} {g0 : Comprehension} {scope : Scope} {pos : Pos} {it acc : Value} {env : Env}
end
end L2
end
section
/-! Readings of a comprehension of two clauses. -/
namespace L2
open PySem PySem.Spec PyProof.Rows
set_option maxHeartbeats 4000000
set_option Elab.async false
set_option linter.unusedVariables false
/-- all stays but at a -/
noncomputable def But (a : Addr) (H H' : Hp) : Prop := ∀ c o, c ≠ a → H c = some o → H' c = some o
section
variable {X : Cx} {elt iter iter' : Expr} {scope : Scope} {pos : Pos} {N : List Str} {js : List Nat} {sc : Scope} {N0 : List Str} {wi wi' : TI} {te : TE} {x y z : Str} {px py pz tp : Pos} {k : Nat}
end
end L2
end
section
/-! A statement that raises nothing, where something may be raised. -/
namespace L2
open PySem PySem.Spec PyProof.Rows
set_option maxHeartbeats 4000000
set_option Elab.async false
end L2
end
section
/-! A place in the middle: what holds behind a statement is said once. -/
namespace L2
open PySem PySem.Spec PyProof.Rows
set_option maxHeartbeats 4000000
set_option Elab.async false
set_option linter.unusedVariables false
noncomputable def tMid (t : TS) : TS := fun D σ H => ∃ mid : St → Hp → Prop, t { D with nx := mid } σ H ∧ ∀ σ' H', mid σ' H' → D.nx σ' H'
theorem ps_mid {X : Cx} {st : Stmt} {t : TS} (h : PS X st t) : PS X st (tMid t) := fun pins s σ H D I ⟨mid, h1, h2⟩ =>
  wpAny_mono (h pins s σ H _ I h1) (fun f s' q => by
    cases f with
    | next => obtain ⟨σ', H', I', q⟩ := q; exact ⟨σ', H', I', h2 _ _ q⟩
    | brk => exact q
    | cont => exact q
    | ret v => exact q) fun _ _ z => z
end L2
end
section
/-! min of a list of ints. -/
namespace L2
open PySem PySem.Spec PyProof.Rows
set_option maxHeartbeats 4000000
set_option maxRecDepth 100000
set_option Elab.async false
set_option linter.unusedVariables false
section
variable {X : Cx}
noncomputable def rMinL (K : PySem.W.Frag) : List V → Hp → VK → Prop := fun xs H Q => ∃ (p : Addr) (ns : List Int), xs = [.ref p] ∧ SqL K H p (ns.map V.int) ∧ ns ≠ [] ∧ ∀ m, m ∈ ns → (∀ x ∈ ns, m ≤ x) → Q (.int m) H
theorem call_minL (hc : X.calm = true) : CallR X (.builtin "min") (rMinL X.K) := by
  intro pins s σ H xs us Q I r h
  obtain ⟨p, ns, rfl, hq, ne, q⟩ := h
  obtain ⟨u, rfl, rx⟩ := vals1 r
  cases (show u = Value.ref p from rx)
  obtain ⟨its, r', pl, hz⟩ := I.list hq
  obtain ⟨ps, e1, e2⟩ := ints_of ns its r'
  have ln : ps.length = ns.length := by rw [← e2, List.length_map]
  have n0 : 0 < ns.length := List.length_pos_iff.mpr ne
  have hl : s.heap.IsList p (intItems ps.toArray) := by
    have z := pl.isList
    rw [e1] at z
    have e3 : (ps.map fun p => Value.int p.1 p.2).toArray = intItems ps.toArray := by unfold intItems; simp
    rw [e3] at z
    exact z
  have na : ∀ i, i < ns.length → numAt ps.toArray i = ns.getD i 0 ∧ ns.getD i 0 ∈ ns := fun i hi => by
    have hi' : i < ps.length := by omega
    have e4 : ns[i]? = some ps[i].1 := by rw [← e2, List.getElem?_map, List.getElem?_eq_getElem hi']; rfl
    unfold numAt
    rw [List.getD_eq_getElem?_getD, e4]
    refine ⟨?_, List.mem_of_getElem? e4⟩
    have : ps.toArray[i]? = some ps[i] := by simp [hi']
    rw [this]
    rfl
  obtain ⟨b1, b2⟩ := argBest_lt (numAt ps.toArray) (ps.toArray.size - 1)
  refine min_intList (I.ok.hd hc) hl (by simp; omega) fun v h' tk hv hk => ?_
  obtain ⟨t, rfl⟩ := intItems_at hv
  have bl : argBest (fun i j => decide (numAt ps.toArray i < numAt ps.toArray j)) (ps.toArray.size - 1) < ns.length := by
    have : ps.toArray.size = ns.length := by simp [ln]
    omega
  obtain ⟨c1, c2⟩ := na _ bl
  refine ⟨.int (numAt ps.toArray (argBest (fun i j => decide (numAt ps.toArray i < numAt ps.toArray j)) (ps.toArray.size - 1))), H, I.kept hk, ⟨_, rfl⟩, q _ (by rw [c1]; exact c2) fun x hx => ?_⟩
  obtain ⟨j, hj, rfl⟩ := List.mem_iff_getElem.mp hx
  have := b2 j (by have : ps.toArray.size = ns.length := by simp [ln]
                   omega)
  rw [(na j hj).1, List.getD_eq_getElem?_getD, List.getElem?_eq_getElem hj] at this
  exact this
end
end L2
end
section
/-! enumerate(l) of a list, walked with a pair as target. -/
namespace L2
open PySem PySem.Spec PyProof.Rows
set_option maxHeartbeats 4000000
set_option maxRecDepth 100000
set_option Elab.async false
set_option linter.unusedVariables false
/-- the items of a list with their places -/
noncomputable def Ite (K : PySem.W.Frag) (l : Addr) : It where
  go := fun i H => ∃ xs x, SqL K H l xs ∧ xs[i]? = some x
  yld := fun i H v H' => ∃ p x, v = .ref p ∧ H p = none ∧ H' = upd H p (.tup [.int i, x]) ∧ ∀ xs, SqL K H l xs → xs[i]? = some x
  stop := fun i H => ∃ xs, SqL K H l xs ∧ xs[i]? = none
theorem turn_enum {P : Program} {w : World} {K : PySem.W.Frag} {es : List Expr} {k0 : Nat} {pos : Pos} {e i l : Addr} (a1 : e ≠ i) (c1 : l ∉ [e, i]) :
    Turn P w K (.Tuple es k0 pos) (Ite K l) [e, i] e (fun k h => (∃ old, IsEnum h e i (k : Int) old) ∧ h.IsListIter i l k) where
  mem := by simp
  obj := fun k h ⟨⟨old, he⟩, ⟨o, e1, _, d1⟩⟩ c hc => by
    simp only [List.mem_cons, List.not_mem_nil, or_false] at hc
    rcases hc with rfl | rfl
    · exact ⟨_, he, fun v q => by cases q⟩
    · exact ⟨_, e1, fun v q => by rw [d1] at q; cases q⟩
  keep := fun k h h' ⟨⟨old, he⟩, h3⟩ kp => ⟨⟨old, kp e (by simp) _ he⟩, h3.at fun o z => kp i (by simp) o z⟩
  item := by
    intro X hP hw hK hc k pins s σ H E I hf st hg
    subst hP hw hK
    obtain ⟨xs, x, hl, hx⟩ := hg
    obtain ⟨⟨old, he⟩, hi⟩ := st
    simp only [List.mem_cons, List.not_mem_nil, or_false, not_or] at c1
    obtain ⟨its, r1, pl, _⟩ := I.list hl
    obtain ⟨u, hu, ru⟩ := r1.get hx
    refine wpAny_pyNext_enum_item he hi pl.isList (x := u) (by simpa using hu) a1 fun h' z1 z2 z3 z4 kp => ?_
    refine ⟨_, rfl, wpAny_letOwnedTupleGo_enum z1 fun h'' y1 sb => ?_⟩
    have fz : H s.heap.objs.size = none := I.hok.fresh (Nat.le_refl _)
    have mine : ∀ c ∈ [e, i], c ≠ s.heap.objs.size := fun c hc' => by
      obtain ⟨o1, e1, _⟩ := id hi
      simp only [List.mem_cons, List.not_mem_nil, or_false] at hc'
      rcases hc' with rfl | rfl
      · exact Nat.ne_of_lt (Heap.lt_size he)
      · exact Nat.ne_of_lt (Heap.lt_size e1)
    have kp2 : ∀ c o, c ∉ [e, i] → s.heap.get? c = some o → h''.get? c = some o := fun c o hc' z => by
      simp only [List.mem_cons, List.not_mem_nil, or_false, not_or] at hc'
      exact sb.extBut _ _ hc'.1 (kp c o hc'.1 hc'.2 z)
    have tp : h''.get? s.heap.objs.size = some { cls := .type "tuple", data := .seq #[.int k s.toks, u] } := sb.extBut _ _ (mine e (by simp)).symm z3
    have notH : ∀ c ∈ [e, i], H c = none := fun c hc' => (hf c hc').1
    have I1 : Inv X pins σ (upd H s.heap.objs.size (.tup [.int k, x])) { s with heap := h'', toks := s.toks + 1 } := by
      have un : Un X.fs [e, i] H (upd H s.heap.objs.size (.tup [.int k, x])) s.heap h'' :=
        ⟨fun c o z n nf hx => kp2 c o hx z, fun c o z n nf hx => ⟨o.slots, kp2 c o hx z⟩, fun c o z n hx => by rw [upd_ne (Nat.ne_of_lt (Heap.lt_size z))]; exact n,
          fun c o z hx => ⟨o, kp2 c o hx z⟩, fun c xs z => by rw [upd_ne (ne_of_none z fz)]; exact z, fun c o xs z => by rw [upd_ne (ne_of_none z fz)]; exact z, fun c ps z => ⟨#[], by rw [upd_ne (ne_of_none z fz), z]; simp⟩⟩
      have hok : HOk X.prog X.w (upd H s.heap.objs.size (.tup [.int k, x])) h'' := fun c o z => by
        by_cases hcs : c = s.heap.objs.size
        · subst hcs
          rw [upd_same] at z
          cases z
          exact ⟨by show 2 ≤ sizeLine; decide, [.int k s.toks, u], .cons ⟨_, rfl⟩ (.cons ru .nil), ⟨_, tp, rfl, _, rfl⟩⟩
        · rw [upd_ne hcs] at z
          refine (I.hok c o z).stay (fun d w' hd q => kp2 d w' (fun zz => ?_) q) (fun d q => ?_) fun d w' q => ?_
          · have hn := notH d zz
            rcases hd with rfl | hd
            · rw [hn] at z; cases z
            · rw [hn] at hd; cases hd
          · rw [upd_ne (ne_of_none q fz)]; exact q
          · rw [upd_ne (ne_of_none q fz)]; exact q
      have hch : ∀ b ∈ [e, i], (b ∈ X.ex ∨ X.s₀.heap.objs.size ≤ b) ∧ b ≠ X.env.locals ∧ (∀ x c, X.env.cells.lookup x = some c → c ≠ b) ∧ ∀ p ∈ X.pn ++ pins, p.1 ≠ b := fun b hb => ⟨(hf b hb).2.2.2.1, (hf b hb).2.1, (hf b hb).2.2.2.2.1, (hf b hb).2.2.2.2.2⟩
      refine I.step (g' := s.gens) (d' := s.drawn) (t' := s.toks + 1) (ch := [e, i]) hch (fun c o _ _ hc' z _ => kp2 c o hc' z) (fun c o _ _ hc' z _ => ⟨o.slots, kp2 c o hc' z⟩) (fun c o hc' z n => un.free c o z n hc') (fun c o hc' z => un.there c o z hc') un.tups un.frzs un.tbls (fun m' hm' => ?_) hok I.bare
      obtain ⟨o, es', ep, ho, r⟩ := hm'
      exact ⟨o, es', ep, kp2 _ o (fun zz => (hf _ zz).2.1 rfl) ho, r⟩
    refine ⟨.ref s.heap.objs.size, _, I1, rfl, ⟨s.heap.objs.size, x, rfl, fz, rfl, fun xs' q => by rw [I.list_inj q hl]; exact hx⟩, ?_, fun c hc' => ?_⟩
    · refine ⟨⟨u, ?_⟩, z2.at fun o z => sb.extBut _ _ (Ne.symm a1) z⟩
      rw [show ((k + 1 : Nat) : Int) = (k : Int) + 1 by omega]
      exact y1
    · rw [upd_ne (mine c hc')]
      exact notH c hc'
  done := by
    intro X hP hw hK hc k pins s σ H E I hf st hg
    subst hP hw hK
    obtain ⟨xs, hl, hx⟩ := hg
    obtain ⟨⟨old, he⟩, hi⟩ := st
    obtain ⟨its, r1, pl, _⟩ := I.list hl
    refine wpAny_pyNext_enum_end (I.ok.hd hc) he hi pl.isList (by simpa using r1.none_of hx) fun h' kp => ⟨rfl, ?_⟩
    have kp2 : ∀ c o, c ∉ [e, i] → s.heap.get? c = some o → h'.get? c = some o := fun c o hc' z => by
      simp only [List.mem_cons, List.not_mem_nil, or_false, not_or] at hc'
      exact kp c o hc'.2 z
    have hch : ∀ b ∈ [e, i], (b ∈ X.ex ∨ X.s₀.heap.objs.size ≤ b) ∧ b ≠ X.env.locals ∧ (∀ x c, X.env.cells.lookup x = some c → c ≠ b) ∧ ∀ p ∈ X.pn ++ pins, p.1 ≠ b := fun b hb => ⟨(hf b hb).2.2.2.1, (hf b hb).2.1, (hf b hb).2.2.2.2.1, (hf b hb).2.2.2.2.2⟩
    refine I.step (g' := s.gens) (d' := s.drawn) (t' := s.toks) (ch := [e, i]) hch (fun c o _ _ hc' z _ => kp2 c o hc' z) (fun c o _ _ hc' z _ => ⟨o.slots, kp2 c o hc' z⟩) (fun _ _ _ _ n => n) (fun c o hc' z => ⟨o, kp2 c o hc' z⟩) (fun _ _ z => z) (fun _ _ _ z => z) (fun b ps z => ⟨#[], by rw [z]; simp⟩) (fun m' hm' => ?_) (fun c o z => ?_) I.bare
    · obtain ⟨o, es', ep, ho, r⟩ := hm'
      exact ⟨o, es', ep, kp2 _ o (fun zz => (hf _ zz).2.1 rfl) ho, r⟩
    · refine (I.hok c o z).stay (fun d w' hd q => kp2 d w' (fun zz => ?_) q) (fun _ q => q) fun _ _ q => q
      have hn := (hf d zz).1
      rcases hd with rfl | hd
      · rw [hn] at z; cases z
      · rw [hn] at hd; cases hd
  self := fun A k s Q E st h => by
    obtain ⟨⟨old, he⟩, _⟩ := st
    exact wpAny_pyIter_enum he h
theorem not_fresh2 {n c : Nat} (h : c < n) (z : c = n + 1 ∨ c = n) : False := by omega
theorem fresh2 {n c : Nat} (z : c = n + 1 ∨ c = n) : n ≤ c := by omega
section
variable {X : Cx}
noncomputable def iEnum (K : PySem.W.Frag) (ta : TA) : TI := fun σ H R => ta σ H fun vs H1 => ∃ l xs, vs = [.ref l] ∧ SqL K H1 l xs ∧ R (Ite K l) H1
theorem pi_enum {es : List Expr} {k0 : Nat} {tp : Pos} {a : Expr} {ta : TA} {p pos : Pos} (hg : Gl X "enumerate") (hm : X.mg "enumerate" = none) (ha : PA X [a] ta) (hs : starEach [a] X.env = [(false, eval a X.env)] := by rfl) :
    PI X (.Tuple es k0 tp) (.Call (.Name "enumerate" p) [a] [] pos) (iEnum X.K ta) := by
  intro pins s σ H R I h
  refine Call_ (ld_blt I hg hm boot_enumerate (PyProof.Rows.callWith_type1 (thn (ha pos pins s σ H _ I h) fun us s1 ⟨vs, H1, I1, r1, q1⟩ => ?_) (by rw [hs]; rfl) (by rfl)))
  obtain ⟨l, xs, e, hl, q⟩ := q1
  subst e
  obtain ⟨u, rfl, ru⟩ := vals1 r1
  cases (show u = Value.ref l from ru)
  obtain ⟨its, _, pl, _⟩ := I1.list hl
  obtain ⟨ol, eol, _⟩ := id pl.isList
  have ll : l < s1.heap.objs.size := Heap.lt_size eol
  refine call_enumerate_list pl.isList fun h' z1 z2 z3 kp => ?_
  have I2 : Inv X pins σ H1 { s1 with heap := h' } := I1.kept (t' := s1.toks) kp
  refine wpAny_pyIter_enum z1 ⟨s1.heap.objs.size + 1, [s1.heap.objs.size + 1, s1.heap.objs.size], _, _, H1, rfl, I2, turn_enum (l := l) (Nat.succ_ne_self _) (fun z => ?_), ⟨⟨_, z1⟩, z2⟩, fun c hc => ?_, q⟩
  · simp only [List.mem_cons, List.not_mem_nil, or_false] at z; exact not_fresh2 ll z
  · have hcs : s1.heap.objs.size ≤ c := by simp only [List.mem_cons, List.not_mem_nil, or_false] at hc; exact fresh2 hc
    exact I1.fpOk hcs (I1.hok.fresh hcs)
end
theorem items_enum {K : PySem.W.Frag} {a : Addr} {xs : List V} {H1 : Hp} (h : H1 a = some (.lst xs)) (i : Nat) (H : Hp) (s : Same H1 H) :
    (i < xs.length → (Ite K a).go i H ∧ ∀ v H2, (Ite K a).yld i H v H2 → Same H H2 ∧ ∃ p x, v = .ref p ∧ H2 p = some (.tup [.int i, x]) ∧ xs[i]? = some x) ∧ (xs.length ≤ i → (Ite K a).stop i H) := by
  have q : SqL K H a xs := SqL.of (s _ _ h)
  refine ⟨fun hi => ⟨⟨xs, xs[i]'hi, q, List.getElem?_eq_getElem hi⟩, fun v H2 ⟨p, x, e1, e2, e3, e4⟩ => ?_⟩, fun hi => ⟨xs, q, List.getElem?_eq_none hi⟩⟩
  subst e3
  exact ⟨same_new e2 _, p, x, e1, upd_same, e4 xs q⟩
end L2
end
section
/-! sorted(l), sorted(t) of ints. -/
namespace L2
open PySem PySem.Spec PyProof.Rows
set_option maxHeartbeats 4000000
set_option maxRecDepth 100000
set_option Elab.async false
set_option linter.unusedVariables false
section
variable {X : Cx}
noncomputable def rSortL : List V → Hp → VK → Prop := fun xs H Q => ∃ (a : Addr) (ks : List Int), xs = [.ref a] ∧ (H a = some (.lst (ks.map V.int)) ∨ H a = some (.tup (ks.map V.int))) ∧ ks.length < 64 ∧
  ∀ (ns : List Int) (l : Addr), ns.Perm ks → ns.Pairwise (· ≤ ·) → H l = none → Q (.ref l) (upd H l (.lst (ns.map V.int)))
theorem call_sortL : CallR X (.builtin "sorted") rSortL := by
  intro pins s σ H xs us Q I r h
  obtain ⟨a, ks, rfl, ha, h64, q⟩ := h
  obtain ⟨u, rfl, rx⟩ := vals1 r
  cases (show u = Value.ref a from rx)
  have seq : ∃ (T : String) (o : Obj) (vs : List Value) (n : Nat), (T = "list" ∨ T = "tuple") ∧ s.heap.get? a = some o ∧ o.cls = .type T ∧ o.data = .seq vs.toArray n ∧ Vals (ks.map V.int) vs := by
    rcases ha with ha | ha
    · obtain ⟨_, vs, n, rv, ho⟩ : _ ∧ ∃ (its : List Value) (n : Nat), Vals (ks.map V.int) its ∧ s.heap.get? a = some { cls := .type "list", data := .seq its.toArray n } := I.hok a _ ha
      exact ⟨"list", _, vs, n, .inl rfl, ho, rfl, rfl, rv⟩
    · obtain ⟨_, vs, rv, o, g1, g2, n, g3⟩ : _ ∧ ∃ its : List Value, Vals (ks.map V.int) its ∧ IsTup s.heap a its.toArray := I.hok a _ ha
      exact ⟨"tuple", o, vs, n, .inr rfl, g1, g2, g3, rv⟩
  obtain ⟨T, o, vs, n, hT, g1, g2, g3, rv⟩ := seq
  have lk : vs.length = ks.length := by have := rv.length; rw [List.length_map] at this; exact this.symm
  have szv : vs.length ≤ sizeLine := by rw [sizeLine_eq]; omega
  have hI : IntsAre vs ks := by
    refine intsAre_of (vals_of _ _ lk fun j u hj => ?_)
    have jl : j < ks.length := by rw [← lk]; exact (List.getElem?_eq_some_iff.mp hj).1
    have e3 : (ks.map V.int)[j]? = some (.int ks[j]) := by rw [List.getElem?_map, List.getElem?_eq_getElem jl]; rfl
    obtain ⟨v, e4, rv'⟩ := rv.get e3
    rw [hj] at e4
    cases e4
    obtain ⟨t, e5⟩ := (show ∃ t, u = Value.int ks[j] t from rv')
    exact ⟨t, ks[j], List.getElem?_eq_getElem jl, e5⟩
  refine Calls.call_function_entry kind_sorted plain_sorted entry_sorted (args_sorted1 _) ?_
  unfold Builtin.«sorted»
  refine wpAny_bind (m := checkCount "sorted" 1 1 _) (wpAny_pure ?_)
  refine wpAny_bind (wpAny_collect_seq a hT g1 g2 g3 (fun h' hk' => ?_) (by rw [List.size_toArray]; exact szv))
  have I0 : Inv X pins σ H { s with heap := h' } := I.kept (t' := s.toks) hk'
  rw [show vs.toArray.toList = vs from rfl]
  refine wpAny_bind (wpAny_newList ?_ szv)
  have hoL : (h'.push (seqObj "list" vs.toArray 0)).get? h'.objs.size = some (seqObj "list" vs.toArray 0) := Heap.get?_push_size _ rfl
  refine wpAny_bind (wpAny_holding (wpAny_call_entry slot_list_sort ⟨_, hoL, rfl⟩ entry_list_sort (list_sort_tree (s := { s with heap := h'.push (seqObj "list" vs.toArray 0) }) hoL hI (by rw [lk]; exact h64) fun out ns' a1 a2 a3 => ⟨_, rfl, ?_⟩) (args_list_sort _)))
  obtain ⟨e, he⟩ := sortedHeap_at (out := out) hoL
  have old : ∀ b o, h'.get? b = some o → (sortedHeap (h'.push (seqObj "list" vs.toArray 0)) h'.objs.size vs out).get? b = some o := fun b o eb => by
    have lt := Heap.lt_size eb
    rw [sortedHeap_old (h := h'.push (seqObj "list" vs.toArray 0)) (b := b) (Nat.ne_of_lt lt) (by rw [Heap.size_push]; exact Nat.lt_succ_of_lt lt)]
    exact Heap.get?_push_of_some _ eb
  refine wpAny_pure ⟨_, rfl, .ref h'.objs.size, _, I0.laid (a := h'.objs.size) (t' := s.toks) (o := .lst (ns'.map V.int)) old (Nat.le_refl _) ?_, rfl, q ns' _ a2 a3 (I0.hok.fresh (Nat.le_refl _))⟩
  refine ⟨by rw [List.length_map, a2.length_eq, sizeLine_eq]; omega, out.toList, e, vals_ints a1, ?_⟩
  have e9 : out.toList.toArray = out := by simp
  rw [e9]
  exact he
end
end L2
end
section
/-! reversed(l) of a list. -/
namespace L2
open PySem PySem.Spec PyProof.Rows
set_option maxHeartbeats 4000000
set_option maxRecDepth 100000
set_option Elab.async false
set_option linter.unusedVariables false
/-- a list walked from its end -/
noncomputable def Itw (K : PySem.W.Frag) (a : Addr) (n : Nat) : It where
  go := fun i H => ∃ xs x, SqL K H a xs ∧ xs.length = n ∧ xs.reverse[i]? = some x
  yld := fun i H x H' => H' = H ∧ ∀ xs, SqL K H a xs → xs.length = n → xs.reverse[i]? = some x
  stop := fun i H => n ≤ i
theorem turn_revL {P : Program} {w : World} {K : PySem.W.Frag} {tg : Expr} (a it : Addr) (n : Nat) : Turn P w K tg (Itw K a n) [it] it (fun i h => i ≤ n ∧ h.IsRevIter it a ((n : Int) - 1 - (i : Int))) where
  mem := by simp
  obj := fun i h st b hb => by
    have e : b = it := by simpa using hb
    subst e
    obtain ⟨_, o, h1, _, h3⟩ := st
    exact ⟨o, h1, fun v z => by rw [h3] at z; cases z⟩
  keep := fun i h h' st k => ⟨st.1, st.2.at fun o e => k it (by simp) o e⟩
  item := by
    intro X hP hw hK hc i pins s σ H E I hf st hg
    subst hP hw hK
    obtain ⟨xs, x, hq, hn, hx⟩ := hg
    obtain ⟨its, rv, p, hz⟩ := I.list hq
    have hlen := rv.length
    have hi : i < xs.length := by
      have := (List.getElem?_eq_some_iff.mp hx).1
      simpa using this
    rw [List.getElem?_reverse hi] at hx
    obtain ⟨u, hu, ru⟩ := rv.get hx
    obtain ⟨f0, f1, f2, f3, f4, f5⟩ := hf it (by simp)
    have ei : (n : Int) - 1 - (i : Int) = ((xs.length - 1 - i : Nat) : Int) := by omega
    have st2 := st.2
    rw [ei] at st2
    refine wpAny_pyNext_rev_item st2 p.isList (x := u) (by simpa using hu) fun h' st' sb => ?_
    have I1 : Inv X pins σ H { s with heap := h' } := I.turned (t' := s.toks) (fun b o hb e => (sb.2 b hb).trans e) f0 f1 f3 f4 f5
    have e2 : (n : Int) - 1 - ((i + 1 : Nat) : Int) = ((xs.length - 1 - i : Nat) : Int) - 1 := by omega
    obtain ⟨o, g1, g2, g3⟩ := id st'
    refine ⟨u, rfl, go_of (s := { s with heap := h' }) (n := "list_reverseiterator") g1 g2 g3 (by decide) ⟨x, H, I1, ru, ⟨rfl, fun ys hy _ => by rw [I.list_inj hy hq, List.getElem?_reverse hi]; exact hx⟩, ⟨by omega, ?_⟩, fun b hb => (hf b hb).1⟩⟩
    rw [e2]
    exact st'
  done := by
    intro X hP hw hK hc i pins s σ H E I hf st hg
    subst hP hw hK
    obtain ⟨f0, f1, f2, f3, f4, f5⟩ := hf it (by simp)
    have en : (n : Int) - 1 - (i : Int) = -1 := by have : n ≤ i := hg; have := st.1; omega
    have st2 := st.2
    rw [en] at st2
    exact wpAny_pyNext_rev_end (I.ok.hd hc) st2 fun h' eb => ⟨rfl, I.turned (t' := s.toks) (fun b o hb e => eb b o hb e) f0 f1 f3 f4 f5⟩
  self := fun _ _ _ _ _ st h => wpAny_pyIter_revIter st.2 h
section
variable {X : Cx} {tg : Expr}
noncomputable def iRevL (K : PySem.W.Frag) (ta : TA) : TI := fun σ H R => ta σ H fun vs H1 => ∃ a xs, vs = [.ref a] ∧ SqL K H1 a xs ∧ R (Itw K a xs.length) H1
theorem pi_revL {a : Expr} {ta : TA} {p pos : Pos} (hg : Gl X "reversed") (hm : X.mg "reversed" = none) (ha : PA X [a] ta) (hs : starEach [a] X.env = [(false, eval a X.env)] := by rfl) :
    PI X tg (.Call (.Name "reversed" p) [a] [] pos) (iRevL X.K ta) := by
  intro pins s σ H R I h
  refine Call_ (ld_blt I hg hm boot_reversed (PyProof.Rows.callWith_type1 (thn (ha pos pins s σ H _ I h) fun us s1 ⟨vs, H1, I1, r1, q1⟩ => ?_) (by rw [hs]; rfl) (by rfl)))
  obtain ⟨t, xs, e, hl, q⟩ := q1
  subst e
  obtain ⟨u, rfl, ru⟩ := vals1 r1
  cases (show u = Value.ref t from ru)
  obtain ⟨its, rv, p, hz⟩ := I1.list hl
  have hlen := rv.length
  refine call_reversed_list p.isList ?_
  have I2 : Inv X pins σ H1 { s1 with heap := s1.heap.push (revObj t ((its.toArray.size : Int) - 1)) } := I1.kept (t' := s1.toks) fun b o e => Heap.get?_push_of_some _ e
  have e0 : (s1.heap.push (revObj t ((its.toArray.size : Int) - 1))).IsRevIter s1.heap.objs.size t ((its.toArray.size : Int) - 1) := ⟨_, Heap.get?_push_size _ rfl, rfl, rfl⟩
  refine wpAny_pyIter_revIter e0 ⟨s1.heap.objs.size, [s1.heap.objs.size], _, _, H1, rfl, I2, turn_revL t _ xs.length, ⟨Nat.zero_le _, ?_⟩, fun b hb => ?_, q⟩
  · have e3 : ((xs.length : Nat) : Int) - 1 - ((0 : Nat) : Int) = (its.toArray.size : Int) - 1 := by simp only [List.size_toArray]; omega
    rw [e3]
    exact e0
  · have e : b = s1.heap.objs.size := by simpa using hb
    subst e
    exact I1.fpOk (Nat.le_refl _) (I1.hok.fresh (Nat.le_refl _))
end
theorem items_revL {K : PySem.W.Frag} {a : Addr} {xs : List V} {H1 : Hp} (h : H1 a = some (.lst xs)) (i : Nat) (H : Hp) (s : Same H1 H) :
    (i < xs.length → (Itw K a xs.length).go i H ∧ ∀ x H2, (Itw K a xs.length).yld i H x H2 → Same H H2 ∧ xs.reverse[i]? = some x) ∧ (xs.length ≤ i → (Itw K a xs.length).stop i H) := by
  have q : SqL K H a xs := SqL.of (s _ _ h)
  refine ⟨fun hi => ⟨⟨xs, xs.reverse[i]'(by simpa using hi), q, rfl, List.getElem?_eq_getElem _⟩, fun x H2 ⟨e, y⟩ => ?_⟩, fun hi => hi⟩
  subst e
  exact ⟨Same.refl _, y xs q rfl⟩
end L2
end
section
/-! max(l, default=0) of a list of ints; l[::-1]. -/
namespace L2
open PySem PySem.Spec PyProof.Rows
set_option maxHeartbeats 4000000
set_option maxRecDepth 100000
set_option Elab.async false
noncomputable abbrev mdA (I S : Addr) (d : Value) : Args := ⟨[.ref I, .none, .ref S], [("default", d)]⟩
section
variable {prog : Program} {w : World} {A : Around} {E : Value → Shared → Prop} {s : Shared} {I S : Addr} {d : Value} {c : Nat} {Q : PySem.Fin → Shared → Prop} {PN : Value → Sem (Option Value)}
theorem md_end (hS : s.heap.get? S = some { cls := .type "list", data := .seq #[] c })
    (hn : ∀ {Q : Option Value → Shared → Prop} {E : Value → Shared → Prop}, (∀ h', (∀ b o, b ≠ I → s.heap.get? b = some o → h'.get? b = some o) → Q none { s with heap := h' }) → wpAny (model prog w) A (PN (.ref I)) Q E s)
    (q : ∀ h', (∀ b o, b ≠ I → s.heap.get? b = some o → h'.get? b = some o) → Q (.done (.ret d)) { s with heap := h' }) (e : PN = pyNext) :
    wpAny (model prog w) A (Builtin.«max.loop» (mdA I S d)) Q E s := by
  obtain ⟨hp, g, dr, tk, os⟩ := s
  show wpAny _ A (seqItems? (.ref S) >>= _) _ _ _
  rw [← e]
  wp_walk
  refine wpAny_tryCatch (hn fun h' k => ?_)
  wp_walk
  exact q _ k
theorem md_last {v : Value} (hS : s.heap.get? S = some { cls := .type "list", data := .seq #[v, v] c }) (hSI : S ≠ I)
    (hn : ∀ {Q : Option Value → Shared → Prop} {E : Value → Shared → Prop}, (∀ h', (∀ b o, b ≠ I → s.heap.get? b = some o → h'.get? b = some o) → Q none { s with heap := h' }) → wpAny (model prog w) A (PN (.ref I)) Q E s)
    (q : ∀ h', (∀ b o, b ≠ I → b ≠ S → s.heap.get? b = some o → h'.get? b = some o) → Q (.done (.ret v)) { s with heap := h' }) (e : PN = pyNext) :
    wpAny (model prog w) A (Builtin.«max.loop» (mdA I S d)) Q E s := by
  obtain ⟨hp, g, dr, tk, os⟩ := s
  show wpAny _ A (seqItems? (.ref S) >>= _) _ _ _
  rw [← e]
  wp_walk
  refine wpAny_tryCatch (hn fun h' k => ?_)
  have hS' := k S _ hSI hS
  wp_walk
  exact q _ fun b o n1 n2 x => (Heap.get?_update_other _ _ (Ne.symm n2)).trans (k b o n1 x)
theorem md_first {v : Value} {Z : Heap → Prop} (hZ : ∀ h f, Z h → Z (h.update S f)) (hS : s.heap.get? S = some { cls := .type "list", data := .seq #[] c }) (hSI : S ≠ I)
    (hn : ∀ {Q : Option Value → Shared → Prop} {E : Value → Shared → Prop}, (∀ h', Z h' → (∀ b o, b ≠ I → s.heap.get? b = some o → h'.get? b = some o) → Q (some v) { s with heap := h' }) → wpAny (model prog w) A (PN (.ref I)) Q E s) (e : PN = pyNext)
    (q : ∀ h' c', Z h' → (∀ b o, b ≠ I → b ≠ S → s.heap.get? b = some o → h'.get? b = some o) → h'.get? S = some { cls := .type "list", data := .seq #[v, v] c' } → Q (.again (.builtin "max.loop" (mdA I S d))) { s with heap := h' }) :
    wpAny (model prog w) A (Builtin.«max.loop» (mdA I S d)) Q E s := by
  obtain ⟨hp, g, dr, tk, os⟩ := s
  show wpAny _ A (seqItems? (.ref S) >>= _) _ _ _
  rw [← e]
  wp_walk
  refine wpAny_tryCatch (hn fun h' z k => ?_)
  have hS' := k S _ hSI hS
  have nm : (toString "max" ++ toString ".loop" : String) = "max.loop" := by decide
  wp_walk
  rw [nm]
  exact q _ _ (hZ _ _ z) (fun b o n1 n2 x => (Heap.get?_update_other _ _ (Ne.symm n2)).trans (k b o n1 x)) (Heap.get?_update_self _ hS' rfl)
theorem md_more {m x : Int} {t u : Tok} {Z : Heap → Prop} (hZ : ∀ h f, Z h → Z (h.update S f)) (hS : s.heap.get? S = some { cls := .type "list", data := .seq #[.int m t, .int m t] c }) (hSI : S ≠ I)
    (hn : ∀ {Q : Option Value → Shared → Prop} {E : Value → Shared → Prop}, (∀ h', Z h' → (∀ b o, b ≠ I → s.heap.get? b = some o → h'.get? b = some o) → Q (some (.int x u)) { s with heap := h' }) → wpAny (model prog w) A (PN (.ref I)) Q E s) (e : PN = pyNext)
    (q : ∀ h' tk c' t', Z h' → (∀ b o, b ≠ I → b ≠ S → s.heap.get? b = some o → h'.get? b = some o) → h'.get? S = some { cls := .type "list", data := .seq #[.int (if x > m then x else m) t', .int (if x > m then x else m) t'] c' } → Q (.again (.builtin "max.loop" (mdA I S d))) { s with heap := h', toks := tk }) :
    wpAny (model prog w) A (Builtin.«max.loop» (mdA I S d)) Q E s := by
  obtain ⟨hp, g, dr, tk, os⟩ := s
  show wpAny _ A (seqItems? (.ref S) >>= _) _ _ _
  rw [← e]
  wp_walk
  refine wpAny_tryCatch (hn fun h' z k => ?_)
  have hS' := k S _ hSI hS
  have nm : (toString "max" ++ toString ".loop" : String) = "max.loop" := by decide
  have cmp : ∀ {s : Shared} {Q : Value → Shared → Prop} {E : Value → Shared → Prop}, Q (.bool (decide (x > m))) s → wpAny (model prog w) A (richCompare .Gt (.int x u) (.int m t)) Q E s := fun {s Q E} h =>
    CmpOf.ints_gt (P := fun i v => v = if i = 0 then .int x u else .int m t) (fun i => if i = 0 then x else m) (fun i v hv => by subst hv; by_cases z : i = 0 <;> simp [z]) 0 1 _ _ s Q E rfl rfl h
  generalize hRC : richCompare = RC at cmp ⊢
  wp_walk using cmp
  refine wpAny_tryCatch ?_
  by_cases gt : x > m
  · rw [decide_eq_true gt] at cmp
    rw [if_pos gt] at q
    wp_walk using cmp
    rw [nm]
    exact q _ _ _ _ (hZ _ _ z) (fun b o n1 n2 x => (Heap.get?_update_other _ _ (Ne.symm n2)).trans (k b o n1 x)) (Heap.get?_update_self _ hS' rfl)
  · rw [decide_eq_false gt] at cmp
    rw [if_neg gt] at q
    wp_walk using cmp
    rw [nm]
    exact q _ _ _ _ z (fun b o n1 _ x => k b o n1 x) hS'
theorem md_go {l : Addr} {ns : List Int} {vs : List Value} (hh : A.handled = none) (hI : IntsAre vs ns) (lI : l ≠ I) (lS : l ≠ S) (SI : S ≠ I) {R : Result → Shared → Prop} : ∀ (k j : Nat) (s : Shared), vs.length - j = k → j ≤ vs.length → s.heap.IsListIter I l j → s.heap.IsList l vs.toArray →
    ((j = 0 ∧ ∃ c, s.heap.get? S = some { cls := .type "list", data := .seq #[] c }) ∨ (0 < j ∧ ∃ c m t, s.heap.get? S = some { cls := .type "list", data := .seq #[.int m t, .int m t] c } ∧ m ∈ ns.take j ∧ ∀ x ∈ ns.take j, x ≤ m)) →
    (∀ v h' tk, ((ns = [] ∧ v = d) ∨ ∃ m t, v = .int m t ∧ m ∈ ns ∧ ∀ x ∈ ns, x ≤ m) → (∀ b o, b ≠ I → b ≠ S → s.heap.get? b = some o → h'.get? b = some o) → R (.ok (.ret v)) { s with heap := h', toks := tk }) →
    codeAny (model prog w) A (.builtin "max.loop" (mdA I S d)) R s := by
  have ln : vs.length = ns.length := IntsAre.length hI
  intro k
  induction k with
  | zero =>
    intro j s hk hj it hl st hR
    have ej : j = vs.length := by omega
    refine codeAny_builtin F.entry_max_loop ?_
    rw [Around.under_plainId F.plain_max_loop _]
    have nx : ∀ {Q : Option Value → Shared → Prop} {E : Value → Shared → Prop}, (∀ h', (∀ b o, b ≠ I → s.heap.get? b = some o → h'.get? b = some o) → Q none { s with heap := h' }) → wpAny (model prog w) A.in1 (pyNext (.ref I)) Q E s := fun {Q E} h =>
      wpAny_pyNext_list_end (by simpa using hh) it hl (by rw [ej]; simp) fun h' ext => h h' fun b o n e => ext b o n e
    rcases st with ⟨z, c, hS⟩ | ⟨z, c, m, t, hS, h1, h2⟩
    · refine md_end hS nx (fun h' kp => ?_) rfl
      exact hR d h' s.toks (.inl ⟨List.length_eq_zero_iff.mp (by omega), rfl⟩) fun b o n1 _ e => kp b o n1 e
    · refine md_last hS SI nx (fun h' kp => ?_) rfl
      rw [List.take_of_length_le (by omega)] at h1 h2
      exact hR _ h' s.toks (.inr ⟨m, t, rfl, h1, h2⟩) kp
  | succ k ih =>
    intro j s hk hj it hl st hR
    have jl : j < vs.length := by omega
    have jn : j < ns.length := by omega
    obtain ⟨u, hu⟩ := IntsAre.int_at hI j _ (List.getElem?_eq_getElem jl)
    have hx : vs.toArray[j]? = some (.int (ns.getD j 0) u) := by
      rw [← hu]
      simp [jl]
    have ex : ns.take (j + 1) = ns.take j ++ [ns.getD j 0] := by
      rw [List.take_add_one, List.getElem?_eq_getElem jn, List.getD_eq_getElem?_getD, List.getElem?_eq_getElem jn]
      rfl
    refine codeAny_builtin F.entry_max_loop ?_
    rw [Around.under_plainId F.plain_max_loop _]
    have nx : ∀ {Q : Option Value → Shared → Prop} {E : Value → Shared → Prop}, (∀ h', h'.IsListIter I l (j + 1) → (∀ b o, b ≠ I → s.heap.get? b = some o → h'.get? b = some o) → Q (some (.int (ns.getD j 0) u)) { s with heap := h' }) → wpAny (model prog w) A.in1 (pyNext (.ref I)) Q E s := fun {Q E} h =>
      wpAny_pyNext_list_item it hl hx fun h' it' sb => h h' it' fun b o n e => (sb.2 b n).trans e
    have hZ : ∀ (h : Heap) (f : Obj → Obj), h.IsListIter I l (j + 1) → (h.update S f).IsListIter I l (j + 1) := fun h f z => by
      obtain ⟨o, h1, h2, h3⟩ := z
      exact ⟨o, (Heap.get?_update_other _ _ SI).trans h1, h2, h3⟩
    have go : ∀ (h' : Heap) (tk c' : Nat) (m : Int) (t : Tok), h'.IsListIter I l (j + 1) → (∀ b o, b ≠ I → b ≠ S → s.heap.get? b = some o → h'.get? b = some o) → h'.get? S = some { cls := .type "list", data := .seq #[.int m t, .int m t] c' } → m ∈ ns.take (j + 1) → (∀ x ∈ ns.take (j + 1), x ≤ m) →
        codeAny (model prog w) A (.builtin "max.loop" (mdA I S d)) R { s with heap := h', toks := tk } := fun h' tk c' m t it' kp hS' h1 h2 => by
      refine ih (j + 1) _ (by omega) (by omega) it' ?_ (.inr ⟨Nat.succ_pos j, c', m, t, hS', h1, h2⟩) fun v h2' tk' hv kp' => hR v h2' tk' hv fun b o n1 n2 e => kp' b o n1 n2 (kp b o n1 n2 e)
      obtain ⟨o, g1, g2⟩ := hl
      exact ⟨o, kp l o lI lS g1, g2⟩
    rcases st with ⟨z, c, hS⟩ | ⟨z, c, m, t, hS, h1, h2⟩
    · subst z
      refine md_first hZ hS SI nx rfl fun h' c' zz kp hS' => ⟨plainId_quiet F.plain_max_loop _, go h' s.toks c' _ u zz kp hS' ?_ ?_⟩
      · rw [ex]; simp
      · rw [ex]; intro y hy; simp at hy; rw [hy, List.getD_eq_getElem?_getD]; exact Int.le_refl _
    · refine md_more hZ hS SI nx rfl fun h' tk c' t' zz kp hS' => ⟨plainId_quiet F.plain_max_loop _, go h' tk c' _ t' zz kp hS' ?_ ?_⟩
      · rw [ex]
        split
        · exact List.mem_append_right _ (List.mem_singleton.mpr rfl)
        · exact List.mem_append_left _ h1
      · rw [ex]
        intro y hy
        rcases List.mem_append.mp hy with w | w
        · have := h2 y w
          split <;> omega
        · rw [List.mem_singleton] at w
          split <;> omega
end
end L2
end
section
namespace L2
open PySem PySem.Spec PyProof.Rows
set_option maxHeartbeats 4000000
set_option maxRecDepth 100000
set_option Elab.async false
section
variable {prog : Program} {w : World} {A : Around} {E : Value → Shared → Prop} {s : Shared}
theorem md_chk (a v : Value) : checkBuiltinCall "max" ⟨[a], [("default", v)]⟩ = pure () := by kernel_rfl
theorem md_call {l : Addr} {ns : List Int} {vs : List Value} {d : Value} {Q : Value → Shared → Prop} (hh : A.handled = none) (hl : s.heap.IsList l vs.toArray) (hI : IntsAre vs ns)
    (q : ∀ v h' tk, ((ns = [] ∧ v = d) ∨ ∃ m t, v = .int m t ∧ m ∈ ns ∧ ∀ x ∈ ns, x ≤ m) → (∀ b o, s.heap.get? b = some o → h'.get? b = some o) → Q v { s with heap := h', toks := tk }) :
    wpAny (model prog w) A (call (.builtin "max") [.ref l] [("default", d)]) Q E s := by
  refine wpAny_call (codeAny_call_builtin F.plain_max F.entry_max ?_)
  rw [md_chk]
  refine wpAny_pure ?_
  have nm : (toString "max" ++ toString ".loop" : String) = "max.loop" := by decide
  have bp : Builtin.Builtins.bindParams "max" ["key", "default"] 0 ⟨[], [("default", d)]⟩ = pure [none, some d] := by first | rfl | kernel_rfl
  show wpAny _ A.in1 (Builtin.Builtins.bindParams "max" ["key", "default"] 0 ⟨[], [("default", d)]⟩ >>= _) _ _ s
  rw [bp]
  refine wpAny_bind (wpAny_pure (wpAny_bind (wpAny_pure (wpAny_bind (wpAny_pyIter_list hl (wpAny_bind (wpAny_newObj_type ?_)))))))
  rw [nm]
  obtain ⟨o, g1, g2⟩ := id hl
  have lt := Heap.lt_size g1
  have sz : (s.heap.push { cls := .type "list_iterator", data := .fields #[.ref l, .int 0 0] }).objs.size = s.heap.objs.size + 1 := Heap.size_push ..
  refine wpAny_pure ⟨plainId_quiet F.plain_max_loop _, md_go (I := s.heap.objs.size) (S := (s.heap.push { cls := .type "list_iterator", data := .fields #[.ref l, .int 0 0] }).objs.size) (d := d) (l := l) (ns := ns) (vs := vs) hh hI (Nat.ne_of_lt lt) (by rw [sz]; exact Nat.ne_of_lt (Nat.lt_succ_of_lt lt)) (by rw [sz]; exact Nat.succ_ne_self _) vs.length 0 _ rfl (Nat.zero_le _) ?_ ?_ (.inl ⟨rfl, 0, ?_⟩) fun v h' tk hv kp => ?_⟩
  · exact ⟨_, Heap.get?_push_of_some _ (Heap.get?_push_size _ rfl), rfl, rfl⟩
  · exact ⟨o, Heap.get?_push_of_some _ (Heap.get?_push_of_some _ g1), g2⟩
  · exact Heap.get?_push_size _ rfl
  · refine q v h' tk hv fun b o e => kp b o (Nat.ne_of_lt (Heap.lt_size e)) (by rw [sz]; exact Nat.ne_of_lt (Nat.lt_succ_of_lt (Heap.lt_size e))) (Heap.get?_push_of_some _ (Heap.get?_push_of_some _ e))
end
section
variable {X : Cx} {e : Expr} {t : TA}
noncomputable def tMaxD (K : PySem.W.Frag) (t : TA) : TE := fun σ H Q => t σ H fun vs H1 => ∃ (p : Addr) (ns : List Int), vs = [.ref p] ∧ SqL K H1 p (ns.map V.int) ∧ ∀ m, ((ns = [] ∧ m = 0) ∨ (m ∈ ns ∧ ∀ x ∈ ns, x ≤ m)) → Q (.int m) H1
/-- max(l, default=0) -/
theorem pe_maxD {p kp kv pos : Pos} {k : Nat} (hc : X.calm = true) (hg : Gl X "max") (hm : X.mg "max" = none) (ha : PA X [e] t)
    (he : starEach [e] X.env = [(false, eval e X.env)] := by rfl) (hpl : (backTo pos (starEach [e] X.env)).any (·.1) = false := by rfl) :
    PE X (.Call (.Name "max" p) [e] [⟨some "default", .Constant (.int 0) k kv, kp⟩] pos) (tMaxD X.K t) := by
  intro pins s σ H Q I h
  refine wpAny_Call_Name_kw (ld_blt I hg hm boot_max ?_ (by decide) (by decide))
  refine callWith_kw (thn (ha pos pins s σ H _ I h) fun us s1 ⟨vs, H1, I1, r1, q1⟩ => ?_) (by rw [he]; rfl) hpl rfl rfl
  obtain ⟨l, ns, e1, hl, q⟩ := q1
  subst e1
  obtain ⟨u, rfl, ru⟩ := vals1 r1
  cases (show u = Value.ref l from ru)
  refine kws_cons (thn (pe_int (X := X) pins s1 σ H1 (fun v H2 => H2 = H1 ∧ v = .int 0) I1 ⟨rfl, rfl⟩) fun v0 s2 ⟨y, H2, I2, r2, e2, e3⟩ => kws_nil ?_)
  subst e2 e3
  obtain ⟨tk0, rfl⟩ := (show ∃ t, v0 = Value.int 0 t from r2)
  obtain ⟨its, rv, pl, hz⟩ := I2.list hl
  have ln : its.length = ns.length := by have := rv.length; rw [List.length_map] at this; exact this.symm
  have hI : IntsAre its ns := by
    refine intsAre_of (vals_of _ _ ln fun j u hj => ?_)
    have jl : j < ns.length := by rw [← ln]; exact (List.getElem?_eq_some_iff.mp hj).1
    obtain ⟨v, e4, rv'⟩ := rv.get (show (ns.map V.int)[j]? = some (.int ns[j]) by rw [List.getElem?_map, List.getElem?_eq_getElem jl]; rfl)
    rw [hj] at e4
    cases e4
    obtain ⟨t, e5⟩ := (show ∃ t, u = Value.int ns[j] t from rv')
    exact ⟨t, ns[j], List.getElem?_eq_getElem jl, e5⟩
  refine md_call (I2.ok.hd hc) pl.isList hI fun v h' tk hv kp => ?_
  rcases hv with ⟨n0, rfl⟩ | ⟨m, t, rfl, h1, h2⟩
  · exact ⟨.int 0, H2, I2.kept kp, ⟨_, rfl⟩, q 0 (.inl ⟨n0, rfl⟩)⟩
  · exact ⟨.int m, H2, I2.kept kp, ⟨_, rfl⟩, q m (.inr ⟨h1, h2⟩)⟩
/-- l[::-1]: a new list -/
noncomputable def tRevL (K : PySem.W.Frag) (te : TE) : TE := fun σ H Q => te σ H fun x H1 => ∃ a xs, x = .ref a ∧ SqL K H1 a xs ∧ ∀ p, H1 p = none → Q (.ref p) (upd H1 p (.lst xs.reverse))
theorem pe_revL {te : TE} {k : Nat} {p1 p2 p3 pos : Pos} (he : PE X e te) : PE X (.Subscript e (.Slice none none (some (.UnaryOp .USub (.Constant (.int 1) k p1) p2)) p3) pos) (tRevL X.K te) := by
  intro pins s σ H Q I h
  refine Subscript_ (thn (he pins s σ H _ I h) fun v s1 ⟨x, H1, I1, r1, q1⟩ => ?_)
  obtain ⟨a, xs, rfl, hx, q⟩ := q1
  cases (show v = Value.ref a from r1)
  refine wpAny_Slice ?_
  rw [evalPart_none]
  refine wpAny_pure (wpAny_pure ?_)
  rw [evalPart_some]
  refine thn (pe_un un_neg pe_int pins s1 σ H1 (fun w H2 => H2 = H1 ∧ w = .int (-1)) I1 ⟨1, rfl, rfl, rfl⟩) fun u s2 ⟨y, H2, I2, r2, e2, e3⟩ => ?_
  subst e2 e3
  obtain ⟨tk, rfl⟩ := (show ∃ t, u = Value.int (-1) t from r2)
  have I3 : Inv X pins σ H2 { s2 with heap := s2.heap.push { cls := .type "slice", data := .fields #[.none, .none, .int (-1) tk] } } := I2.kept (t' := s2.toks) fun b ob q => Heap.get?_push_of_some _ q
  obtain ⟨its, r, ht, hz⟩ := I3.list hx
  have hlen := r.length
  refine tail_any (ops := [.ref a, .ref s2.heap.objs.size]) ht.isList.typeIs slot_list_getitem.lookup (wpAny_getItem_list_slice ht.isList (Heap.IsSliceOf.new ..) .none .none (.int _ _) (by simp) ?_ (by rw [List.size_toArray]; omega)) (by with_unfolding_all rfl)
  rw [PySem.W.krv_pick]
  refine ⟨.ref _, _, I3.laid (t' := s2.toks) (o := .lst xs.reverse) (fun b ob q => Heap.get?_push_of_some _ q) (Nat.le_refl _) ?_, rfl, q _ (I3.hok.fresh (Nat.le_refl _))⟩
  exact ⟨by rw [List.length_reverse]; exact hz, _, 0, r.reverse, Heap.get?_push_size _ rfl⟩
end
end L2
end
section
/-! any of a list of bools; a chain of three comparisons. -/
namespace L2
open PySem PySem.Spec PyProof.Rows
set_option maxHeartbeats 4000000
set_option maxRecDepth 100000
set_option Elab.async false
set_option linter.unusedVariables false
section
variable {X : Cx}
variable {a b c d : Expr} {ta tb tc td : TE} {pos : Pos}
end
end L2
end
section
/-! len(set(l)) of a list of ints, none of which is there twice. -/
namespace L2
open PySem PySem.Spec PyProof.Rows
set_option maxHeartbeats 4000000
set_option maxRecDepth 100000
set_option Elab.async false
set_option linter.unusedVariables false
theorem met_all {ns : List Int} (nd : ns.Nodup) : ∀ i, i ≤ ns.length → firstMet (fun j => ns.getD j 0) i = ns.take i
  | 0, _ => by rw [firstMet_zero, List.take_zero]
  | i + 1, h => by
    rw [firstMet_succ, met_all nd i (by omega)]
    have e : ns.take (i + 1) = ns.take i ++ [ns.getD i 0] := by
      rw [List.take_succ, List.getD_eq_getElem?_getD, List.getElem?_eq_getElem (by omega)]
      rfl
    rw [e]
    unfold step_dedup
    rw [if_neg]
    intro z
    obtain ⟨x, hx, ex⟩ := List.any_eq_true.mp z
    rw [beq_iff_eq] at ex
    subst ex
    have n2 : (ns.take (i + 1)).Nodup := nd.sublist (List.take_sublist ..)
    rw [e, List.nodup_append] at n2
    exact n2.2.2 _ hx _ (List.mem_singleton.mpr rfl) rfl
theorem ints_are : ∀ (ns : List Int) (vs : List Value), Vals (ns.map V.int) vs → IntsAre vs ns
  | [], vs, v => by cases v; exact .nil
  | n :: ns, vs, v => by
    cases v with
    | cons a b =>
      obtain ⟨t, rfl⟩ := a
      exact .cons n t (ints_are ns _ b)
section
variable {X : Cx}
theorem boot_set : bootBuiltins "set" = some (.type "set") := by decide +kernel
noncomputable def tLenSet (K : PySem.W.Frag) (ta : TA) : TE := fun σ H Q => ta σ H fun vs H1 => ∃ (p : Addr) (ns : List Int), vs = [.ref p] ∧ SqL K H1 p (ns.map V.int) ∧ ns.length ≤ 100 ∧ ns.Nodup ∧ Q (.int (ns.length : Int)) H1
theorem pe_lenset {a : Expr} {ta : TA} {p1 p2 p3 p4 : Pos} (hg : Gl X "len") (hm : X.mg "len" = none) (hg' : Gl X "set") (hm' : X.mg "set" = none) (hc : X.calm = true) (ha : PA X [a] ta)
    (hs : starEach [a] X.env = [(false, eval a X.env)] := by rfl)
    (hs3 : starEach [.Call (.Name "set" p2) [a] [] p3] X.env = [(false, eval (.Call (.Name "set" p2) [a] [] p3) X.env)] := by rfl) :
    PE X (.Call (.Name "len" p1) [.Call (.Name "set" p2) [a] [] p3] [] p4) (tLenSet X.K ta) := by
  intro pins s σ H Q I h
  refine Call_ (ld_blt I hg hm PySem.boot_len (PyProof.Rows.callWith_builtin1 ?_ (by rw [hs3]; rfl) (by rfl)))
  show wpAny _ _ (spliced ((false, eval (.Call (.Name "set" p2) [a] [] p3) X.env) :: [])) _ _ s
  refine Calls.spliced_cons ?_
  refine Call_ (ld_blt I hg' hm' boot_set (PyProof.Rows.callWith_type1 (thn (ha p3 pins s σ H _ I h) fun us s1 ⟨vs, H1, I1, r1, q1⟩ => ?_) (by rw [hs]; rfl) (by rfl)))
  obtain ⟨p, ns, rfl, hq, hl, nd, q⟩ := q1
  obtain ⟨u, rfl, rx⟩ := vals1 r1
  cases (show u = Value.ref p from rx)
  obtain ⟨its, r', pl, hz⟩ := I1.list hq
  have il : its.length = ns.length := by rw [← r'.length, List.length_map]
  refine call_set_list (items := its.toArray) (ns := ns) (I.ok.hd hc) pl.isList (by simpa using ints_are ns its r') (by simp only [List.size_toArray]; rw [il]; unfold scanBound; omega) fun h' tk hS hk => ?_
  refine Calls.spliced_nil ?_
  have I2 : Inv X pins σ H1 { s1 with heap := h', toks := tk } := I1.kept fun b o e => hk b o (Heap.lt_size e) e
  obtain ⟨o, ho, hso⟩ := hS.objOf
  obtain ⟨hex, es, ep, t, hd, _, _, hn, hf⟩ := hso
  simp only [List.size_toArray] at hn
  rw [il, met_all nd _ (Nat.le_refl _), List.take_length] at hn
  refine call_len_set ho hex hd hf (by omega) ?_
  rw [hn]
  exact ⟨.int (ns.length : Int), H1, I2.kept fun b o e => e, ⟨_, rfl⟩, q⟩
end
end L2
end
section
/-! l.extend(t), t a tuple. -/
namespace L2
open PySem PySem.Spec PyProof.Rows
set_option maxHeartbeats 4000000
set_option maxRecDepth 100000
set_option Elab.async false
set_option linter.unusedVariables false
/-- list.extend of a tuple, walked -/
theorem put_tup (l b : Addr) (as bs : Array Value) (n m : Nat) (o : Obj) (hz : as.size + bs.size ≤ sizeLine) (hc : o.cls = .type "tuple") (hd : o.data = .seq bs m) :
    Meets (Builtin.«list.extend» ⟨[.ref l, .ref b], []⟩) (fun _ R s => s.heap.get? l = some { cls := .type "list", data := .seq as n } ∧ s.heap.get? b = some o ∧ R (.ok (.ret Value.none)) { s with heap := s.heap.update l (Obj.mapSeq fun x => x ++ bs) }) :=
  .of_wp fun prog w A R s h => by
    obtain ⟨hp, g, d, tk, os⟩ := s
    obtain ⟨hl, hb, q⟩ := h
    obtain ⟨oc, od, oda, osl⟩ := o
    simp only at hc hd
    subst hc
    subst hd
    have k1 := F.sub_tuple_tuple
    have k2 := F.sub_list_list
    have k3 := F.sub_tuple_list
    have k4 := F.sub_list_tuple
    have lg : ¬ (!as.isEmpty && Builtin.List.listTooLong (as.size + bs.size)) = true := by
      rw [notLongL hz, Bool.and_false]
      exact Bool.false_ne_true
    have z1 : as.size ≤ sizeLine := by omega
    have z2 : (as ++ bs).size ≤ sizeLine + 1 := by rw [Array.size_append]; omega
    wp_walk using wpAny_updateSeq hl rfl (hz := z1) (_hz' := z2), wpAny_loadPart' hl, wpAny_loadPart' hb
    exact ⟨_, rfl, q⟩
section
variable {X : Cx}
noncomputable def rExtendT (K : PySem.W.Frag) : V → List V → Hp → VK → Prop := fun x vs H Q => ∃ l b xs zs, x = .ref l ∧ vs = [.ref b] ∧ H l = some (.lst xs) ∧ SqT K H b zs ∧ xs.length + zs.length ≤ sizeLine ∧ Q .non (upd H l (.lst (xs ++ zs)))
theorem mt_extendT : MtM X "list.extend" (rExtendT X.K) := by
  intro pins s σ H x vs v us Q I rx rv h
  obtain ⟨l, b, xs, zs, rfl, rfl, hH, hB, hz, q⟩ := h
  cases rx
  obtain ⟨u, rfl, ru⟩ := rv.one
  cases ru
  obtain ⟨z, its, n, r, hl, e⟩ := I.lstM hH
  obtain ⟨its2, r2, ⟨o, e2, c2, n2, d2⟩, z2⟩ := I.tuple hB
  have l2 := r2.length
  refine call_meets F.slot_list_extend ⟨_, e, rfl⟩ F.entry_list_extend (F.args_list_extend_2 _ _) (put_tup l b its.toArray its2.toArray n n2 o (by simp only [List.size_toArray]; omega) c2 d2) ⟨e, e2, ?_⟩
  refine ⟨.non, _, I.lset (its' := its ++ its2) hH e (by simp) (r.append r2) ?_, rfl, q⟩
  rw [List.length_append]
  omega
end
end L2
end
section
/-! Peeling: what is taken out, what is left. -/
namespace BB
set_option linter.unusedVariables false
/-- the balls with an empty box right behind them -/
noncomputable def bare (row : List Int) : List Int := row.filter fun p => decide (p + 1 ∉ row)
noncomputable def closedUp (row out : List Int) : List Int := (row.filter fun p => decide (p ∉ out)).map fun p => p - ((out.filter fun g => decide (g < p)).length : Int)
noncomputable def peel (row : List Int) : List Int := closedUp row (bare row ++ (bare row).map (· + 1))
/-- the greatest of some numbers -/
theorem top_mem : ∀ {l : List Int}, l ≠ [] → ∃ m, m ∈ l ∧ ∀ x ∈ l, x ≤ m
  | [], h => absurd rfl h
  | [a], _ => ⟨a, List.mem_singleton.mpr rfl, fun x hx => by rw [List.mem_singleton.mp hx]; exact Int.le_refl _⟩
  | a :: b :: r, _ => by
    obtain ⟨m, hm, hx⟩ := top_mem (l := b :: r) (by simp)
    by_cases h : a ≤ m
    · refine ⟨m, List.mem_cons_of_mem _ hm, fun x hx' => ?_⟩
      rcases List.mem_cons.mp hx' with e | e
      · rw [e]; exact h
      · exact hx x e
    · refine ⟨a, List.mem_cons_self, fun x hx' => ?_⟩
      rcases List.mem_cons.mp hx' with e | e
      · rw [e]; exact Int.le_refl _
      · exact Int.le_trans (hx x e) (by omega)
theorem peel_lt {row : List Int} (h : row ≠ []) : (peel row).length < row.length := by
  obtain ⟨m, hm, hx⟩ := top_mem h
  have hb : m ∈ bare row := List.mem_filter.mpr ⟨hm, decide_eq_true fun z => by have := hx _ z; omega⟩
  unfold peel closedUp
  rw [List.length_map]
  have le := List.length_filter_le (fun p => decide (p ∉ bare row ++ (bare row).map (· + 1))) row
  refine Nat.lt_of_le_of_ne le fun e => ?_
  have all := (List.length_filter_eq_length_iff.mp e) m hm
  exact of_decide_eq_true all (List.mem_append_left _ hb)
theorem peel_le (row : List Int) : (peel row).length ≤ row.length := by
  unfold peel closedUp
  rw [List.length_map]
  exact List.length_filter_le _ _
theorem bare_le (row : List Int) : (bare row).length ≤ row.length := List.length_filter_le _ _
/-- what a comprehension with a test tells of a list -/
theorem sel_list {α β : Type} (d : α) (l : List α) (q : α → Bool) (f : α → β) : ((List.range l.length).filter fun i => q (l.getD i d)).map (fun i => f (l.getD i d)) = (l.filter q).map f := by
  induction l with
  | nil => rfl
  | cons a r ih =>
    rw [List.length_cons, List.range_succ_eq_map, List.filter_cons, List.filter_map, List.filter_cons]
    have e1 : (a :: r).getD 0 d = a := rfl
    have e2 : ((fun i => q ((a :: r).getD i d)) ∘ Nat.succ) = fun i => q (r.getD i d) := rfl
    rw [e1, e2]
    cases hq : q a with
    | true =>
      simp only [if_true, List.map_cons, List.map_map]
      rw [show (List.map ((fun i => f ((a :: r).getD i d)) ∘ Nat.succ) ((List.range r.length).filter fun i => q (r.getD i d))) = ((List.range r.length).filter fun i => q (r.getD i d)).map fun i => f (r.getD i d) from rfl, ih]
      rfl
    | false =>
      simp only [Bool.false_eq_true, if_false, List.map_map]
      rw [show (List.map ((fun i => f ((a :: r).getD i d)) ∘ Nat.succ) ((List.range r.length).filter fun i => q (r.getD i d))) = ((List.range r.length).filter fun i => q (r.getD i d)).map fun i => f (r.getD i d) from rfl, ih]
theorem all_list {α β : Type} (d : α) (l : List α) (f : α → β) : (List.range l.length).map (fun i => f (l.getD i d)) = l.map f := by
  have h := sel_list d l (fun _ => true) f
  rw [List.filter_eq_self.mpr fun _ _ => rfl, List.filter_eq_self.mpr fun _ _ => rfl] at h
  exact h
end BB
end
section
/-! The blocks of a row. -/
namespace BB
noncomputable def blk : List Int → List (Int × Int)
  | [] => []
  | p :: r => match blk r with
    | [] => [(p, 1)]
    | (q, n) :: t => if q = p + 1 then (p, n + 1) :: t else (p, 1) :: (q, n) :: t
theorem blk_nil {r : List Int} (h : blk r = []) : r = [] := by
  cases r with
  | nil => rfl
  | cons p r =>
    unfold blk at h
    split at h
    · cases h
    · split at h <;> cases h
/-- the first block begins where the row does -/
theorem blk_head {p : Int} {r : List Int} : ∃ n t, blk (p :: r) = (p, n) :: t := by
  unfold blk
  split
  · exact ⟨1, [], rfl⟩
  · split
    · exact ⟨_, _, rfl⟩
    · exact ⟨_, _, rfl⟩
theorem blk_firsts : ∀ {r : List Int}, r.Pairwise (· < ·) → ∀ (b : Int), (∀ x ∈ r, b < x) → ((b :: r).filter fun p => decide (p - 1 ∉ b :: r)) = (blk (b :: r)).map (·.1)
  | [], _, b, _ => by
    simp [blk]
    omega
  | p :: r, up, b, hb => by
    have up' := List.pairwise_cons.mp up
    have ih := blk_firsts up'.2 p up'.1
    obtain ⟨n, t, e⟩ := blk_head (p := p) (r := r)
    have bp := hb p List.mem_cons_self
    have e2 : blk (b :: p :: r) = if p = b + 1 then (b, n + 1) :: t else (b, 1) :: (p, n) :: t := by
      conv => lhs; unfold blk
      rw [e]
    have b1 : b - 1 ∉ b :: p :: r := fun z => by
      rcases List.mem_cons.mp z with z | z
      · omega
      · have := hb _ z; omega
    have same : ((p :: r).filter fun x => decide (x - 1 ∉ b :: p :: r)) = if p = b + 1 then r.filter (fun x => decide (x - 1 ∉ p :: r)) else (p :: r).filter fun x => decide (x - 1 ∉ p :: r) := by
      have out : ∀ x ∈ r, (x - 1 ∉ b :: p :: r ↔ x - 1 ∉ p :: r) := fun x hx => by
        have := up'.1 x hx
        simp only [List.mem_cons, not_or]
        constructor
        · intro z; exact z.2
        · intro z
          refine ⟨by omega, z⟩
      have rest : (r.filter fun x => decide (x - 1 ∉ b :: p :: r)) = r.filter fun x => decide (x - 1 ∉ p :: r) := List.filter_congr fun x hx => by rw [decide_eq_decide]; exact out x hx
      split
      · rename_i c
        rw [List.filter_cons_of_neg (by subst c; simp), rest]
      · rename_i c
        have p1 : p - 1 ∉ b :: p :: r := fun z => by
          rcases List.mem_cons.mp z with z | z
          · omega
          · rcases List.mem_cons.mp z with z | z
            · omega
            · have := up'.1 _ z; omega
        have p2 : p - 1 ∉ p :: r := fun z => p1 (List.mem_cons_of_mem _ z)
        rw [List.filter_cons_of_pos (by simpa using p1), List.filter_cons_of_pos (by simpa using p2), rest]
    rw [List.filter_cons_of_pos (by simpa using b1), same, e2]
    rw [e, List.map_cons] at ih
    have p2 : p - 1 ∉ p :: r := fun z => by
      rcases List.mem_cons.mp z with z | z
      · omega
      · have := up'.1 _ z; omega
    rw [List.filter_cons_of_pos (by simpa using p2)] at ih
    injection ih with _ ih
    split
    · rw [List.map_cons, ih]
    · rw [List.filter_cons_of_pos (by simpa using p2), ih]
      rfl
theorem blk_lasts : ∀ {r : List Int}, r.Pairwise (· < ·) → ∀ (b : Int), (∀ x ∈ r, b < x) → ((b :: r).filter fun p => decide (p + 1 ∉ b :: r)) = (blk (b :: r)).map fun q => q.1 + q.2 - 1
  | [], _, b, _ => by
    simp [blk]
    omega
  | p :: r, up, b, hb => by
    have up' := List.pairwise_cons.mp up
    have ih := blk_lasts up'.2 p up'.1
    obtain ⟨n, t, e⟩ := blk_head (p := p) (r := r)
    have bp := hb p List.mem_cons_self
    have e2 : blk (b :: p :: r) = if p = b + 1 then (b, n + 1) :: t else (b, 1) :: (p, n) :: t := by
      conv => lhs; unfold blk
      rw [e]
    have rest : ((p :: r).filter fun x => decide (x + 1 ∉ b :: p :: r)) = (p :: r).filter fun x => decide (x + 1 ∉ p :: r) := List.filter_congr fun x hx => by
      have := hb x hx
      rw [decide_eq_decide]
      constructor
      · intro z y; exact z (List.mem_cons_of_mem _ y)
      · intro z y
        rcases List.mem_cons.mp y with y | y
        · omega
        · exact z y
    rw [e2]
    rw [e, List.map_cons] at ih
    split
    · rename_i c
      rw [List.filter_cons_of_neg (by subst c; simp), rest, ih, List.map_cons]
      congr 1
      show p + n - 1 = b + (n + 1) - 1
      omega
    · rename_i c
      have b1 : b + 1 ∉ b :: p :: r := fun z => by
        rcases List.mem_cons.mp z with z | z
        · omega
        · rcases List.mem_cons.mp z with z | z
          · omega
          · have := up'.1 _ z; omega
      rw [List.filter_cons_of_pos (by simpa using b1), rest, ih]
      show b :: _ = (b + 1 - 1) :: _
      rw [show b + 1 - 1 = b by omega]
      rfl
end BB
end
section
/-! Blocks put farther. -/
namespace BB
theorem blk_all : ∀ row : List Int, (∀ b ∈ blk row, b.1 ∈ row ∧ 1 ≤ b.2 ∧ b.2 ≤ row.length) ∧ ((blk row).map fun b => b.2.toNat).sum = row.length
  | [] => ⟨fun _ h => absurd h List.not_mem_nil, rfl⟩
  | p :: r => by
    obtain ⟨h1, h2⟩ := blk_all r
    unfold blk
    split
    · rename_i e
      have := blk_nil e
      subst this
      refine ⟨fun b hb => ?_, rfl⟩
      rw [List.mem_singleton] at hb
      subst hb
      exact ⟨List.mem_cons_self, Int.le_refl 1, by simp⟩
    · rename_i q n t e
      rw [e] at h1 h2
      have hq := h1 (q, n) List.mem_cons_self
      simp only [List.map_cons, List.sum_cons] at h2
      split
      · refine ⟨fun b hb => ?_, ?_⟩
        · rcases List.mem_cons.mp hb with rfl | z
          · refine ⟨List.mem_cons_self, ?_, ?_⟩
            · show 1 ≤ n + 1
              have := hq.2.1
              simp only at this
              omega
            · have := hq.2.2
              simp only [List.length_cons] at this ⊢
              omega
          · have y := h1 b (List.mem_cons_of_mem _ z)
            refine ⟨List.mem_cons_of_mem _ y.1, y.2.1, ?_⟩
            have := y.2.2
            simp only [List.length_cons]
            omega
        · simp only [List.map_cons, List.sum_cons, List.length_cons]
          have := hq.2.1
          simp only at this
          omega
      · refine ⟨fun b hb => ?_, ?_⟩
        · rcases List.mem_cons.mp hb with rfl | z
          · exact ⟨List.mem_cons_self, Int.le_refl 1, by simp only [List.length_cons]; omega⟩
          · have y := h1 b z
            refine ⟨List.mem_cons_of_mem _ y.1, y.2.1, ?_⟩
            have := y.2.2
            simp only [List.length_cons]
            omega
        · simp only [List.map_cons, List.sum_cons, List.length_cons]
          omega
end BB
end
section
/-! Balls and their partners. -/
namespace BB
/-- how many are to be laid yet, so many boxes behind b -/
noncomputable def wlk (row : List Int) (b : Int) : Nat → Int
  | 0 => 1
  | d + 1 => wlk row b d + if b + (d : Int) + 1 ∈ row then 1 else -1
noncomputable def Prt (row : List Int) (b : Int) (d : Nat) : Prop := wlk row b d = 0 ∧ ∀ e, e < d → 0 < wlk row b e
/-- the balls that are held, the last one on top; box is looked at next -/
noncomputable def Stk (row hs : List Int) (box : Int) : Prop := ∀ (j : Nat) (h : Int), hs[j]? = some h → h < box ∧ wlk row h (box - 1 - h).toNat = (hs.length : Int) - (j : Int) ∧ ∀ e, e ≤ (box - 1 - h).toNat → 0 < wlk row h e
theorem wlk_at {row : List Int} {h box : Int} (l : h < box) : wlk row h (box - h).toNat = wlk row h (box - 1 - h).toNat + if box ∈ row then 1 else -1 := by
  have e : (box - h).toNat = (box - 1 - h).toNat + 1 := by omega
  rw [e, wlk, show h + ((box - 1 - h).toNat : Int) + 1 = box by omega]
theorem Stk.pop {row zs : List Int} {h box : Int} (s : Stk row (zs ++ [h]) box) (hb : box ∉ row) : h < box ∧ Prt row h (box - h).toNat ∧ Stk row zs (box + 1) := by
  obtain ⟨l, w, pos⟩ := s zs.length h (by simp)
  refine ⟨l, ⟨?_, fun e he => pos e (by omega)⟩, fun j g hg => ?_⟩
  · rw [wlk_at l, w, if_neg hb, List.length_append, List.length_singleton]
    omega
  · have jl : j < zs.length := (List.getElem?_eq_some_iff.mp hg).1
    obtain ⟨l', w', pos'⟩ := s j g (by rw [List.getElem?_append_left jl]; exact hg)
    have ev : wlk row g (box - g).toNat = (zs.length : Int) - (j : Int) := by
      rw [wlk_at l', w', if_neg hb, List.length_append, List.length_singleton]
      omega
    refine ⟨by omega, by rw [show (box + 1 - 1 - g) = box - g by omega]; exact ev, fun e he => ?_⟩
    by_cases c : e ≤ (box - 1 - g).toNat
    · exact pos' e c
    · rw [show e = (box - g).toNat by omega, ev]
      omega
theorem Stk.push {row hs : List Int} {p box : Int} (s : Stk row hs box) (hp : p ∈ row) (c : hs = [] ∨ box = p) : Stk row (hs ++ [p]) (p + 1) := fun j g hg => by
  rw [List.length_append, List.length_singleton]
  by_cases jl : j < hs.length
  · rw [List.getElem?_append_left jl] at hg
    have eb : box = p := c.elim (fun z => by rw [z] at jl; simp at jl) id
    subst eb
    obtain ⟨l', w', pos'⟩ := s j g hg
    have ev : wlk row g (box - g).toNat = ((hs.length + 1 : Nat) : Int) - (j : Int) := by
      rw [wlk_at l', w', if_pos hp]
      omega
    refine ⟨by omega, by rw [show (box + 1 - 1 - g) = box - g by omega]; exact ev, fun e he => ?_⟩
    by_cases c : e ≤ (box - 1 - g).toNat
    · exact pos' e c
    · rw [show e = (box - g).toNat by omega, ev]
      omega
  · have jj : j = hs.length := by
      have := (List.getElem?_eq_some_iff.mp hg).1
      rw [List.length_append, List.length_singleton] at this
      omega
    subst jj
    rw [List.getElem?_append_right (Nat.le_refl _), Nat.sub_self] at hg
    cases hg
    refine ⟨by omega, ?_, fun e he => ?_⟩
    · rw [show (p + 1 - 1 - p).toNat = 0 by omega]
      show (1 : Int) = _
      omega
    · rw [show e = 0 by omega]
      show (0 : Int) < 1
      omega
/-- pairs of balls and their partners -/
noncomputable def FD (row : List Int) (fl : List (Int × Int)) : Prop := ∀ q ∈ fl, q.1 < q.2 ∧ Prt row q.1 (q.2 - q.1).toNat
end BB
end
section
/-! Depths by a stack, and what is peeled off. -/
namespace BB
set_option linter.unusedVariables false
/-- balls from x on, with so many empty boxes behind each -/
noncomputable def pos : Int → List Nat → List Int
  | _, [] => []
  | x, g :: r => x :: pos (x + 1 + (g : Int)) r
/-- a word peeled: empty boxes ahead of its first ball, and the gaps -/
noncomputable def pT : List Nat → Nat × List Nat
  | [] => (0, [])
  | 0 :: r => (0, (pT r).1 :: (pT r).2)
  | (g + 1) :: r => (g + (pT r).1, (pT r).2)
theorem pos_ge : ∀ (gs : List Nat) (x y : Int), y ∈ pos x gs → x ≤ y
  | [], _, _, h => absurd h List.not_mem_nil
  | g :: r, x, y, h => by
    rcases List.mem_cons.mp h with z | z
    · omega
    · have := pos_ge r _ _ z; omega
theorem pos_up : ∀ (gs : List Nat) (x : Int), (pos x gs).Pairwise (· < ·)
  | [], _ => .nil
  | g :: r, x => List.pairwise_cons.mpr ⟨fun y hy => by have := pos_ge r _ _ hy; omega, pos_up r _⟩
theorem pos_shift : ∀ (gs : List Nat) (x d : Int), (pos x gs).map (· - d) = pos (x - d) gs
  | [], _, _ => rfl
  | g :: r, x, d => by
    show (x - d) :: (pos (x + 1 + (g : Int)) r).map (· - d) = (x - d) :: _
    rw [pos_shift r]
    congr 2
    omega
theorem pos_len : ∀ (gs : List Nat) (x : Int), (pos x gs).length = gs.length
  | [], _ => rfl
  | g :: r, x => by show (pos _ r).length + 1 = _; rw [pos_len r]; rfl
theorem bare_in {p : Int} {r : List Int} (up : ∀ y ∈ r, p < y) (h : p + 1 ∈ r) : bare (p :: r) = bare r := by
  unfold bare
  rw [List.filter_cons, if_neg (by simp [h])]
  exact List.filter_congr fun y hy => by
    have := up y hy
    rw [decide_eq_decide]
    constructor
    · exact fun z w => z (List.mem_cons_of_mem _ w)
    · exact fun z w => (List.mem_cons.mp w).elim (fun e => by omega) z
theorem bare_out {p : Int} {r : List Int} (up : ∀ y ∈ r, p < y) (h : p + 1 ∉ r) : bare (p :: r) = p :: bare r := by
  unfold bare
  rw [List.filter_cons, if_pos (by simp [h]; omega)]
  congr 1
  exact List.filter_congr fun y hy => by
    have := up y hy
    rw [decide_eq_decide]
    constructor
    · exact fun z w => z (List.mem_cons_of_mem _ w)
    · exact fun z w => (List.mem_cons.mp w).elim (fun e => by omega) z
/-- of a row what is left is what has a ball right behind it -/
theorem left_is (row : List Int) {y : Int} (hy : y ∈ row) : y ∉ bare row ++ (bare row).map (· + 1) ↔ y + 1 ∈ row := by
  constructor
  · intro h
    by_cases c : y + 1 ∈ row
    · exact c
    · exact absurd (List.mem_append_left _ (List.mem_filter.mpr ⟨hy, decide_eq_true c⟩)) h
  · intro h z
    rcases List.mem_append.mp z with w | w
    · exact of_decide_eq_true (List.mem_filter.mp w).2 h
    · obtain ⟨b, hb, e⟩ := List.mem_map.mp w
      exact of_decide_eq_true (List.mem_filter.mp hb).2 (by rw [e]; exact hy)
theorem peel_is (row : List Int) : peel row = (row.filter fun y => decide (y + 1 ∈ row)).map fun y => y - (((bare row ++ (bare row).map (· + 1)).filter fun g => decide (g < y)).length : Int) := by
  unfold peel closedUp
  congr 1
  exact List.filter_congr fun y hy => by rw [decide_eq_decide]; exact left_is row hy
theorem peel_in {p : Int} {r : List Int} (up : (p :: r).Pairwise (· < ·)) (h : p + 1 ∈ r) : peel (p :: r) = p :: peel r := by
  have u := (List.pairwise_cons.mp up).1
  rw [peel_is, peel_is, bare_in u h, List.filter_cons, if_pos (by simp [h]), List.map_cons]
  have z : ((bare r ++ (bare r).map (· + 1)).filter fun g => decide (g < p)) = [] := List.filter_eq_nil_iff.mpr fun g hg => by
    rcases List.mem_append.mp hg with w | w
    · have := u g (List.mem_filter.mp w).1; simp; omega
    · obtain ⟨b, hb, e⟩ := List.mem_map.mp w
      have := u b (List.mem_filter.mp hb).1
      simp; omega
  rw [z]
  congr 1
  · simp
  · congr 1
    exact List.filter_congr fun y hy => by
      have := u y hy
      rw [decide_eq_decide]
      constructor
      · exact fun w => (List.mem_cons.mp w).elim (fun e => by omega) id
      · exact fun w => List.mem_cons_of_mem _ w
theorem peel_out {p : Int} {r : List Int} (up : (p :: r).Pairwise (· < ·)) (h : p + 1 ∉ r) : peel (p :: r) = (peel r).map (· - 2) := by
  have u := (List.pairwise_cons.mp up).1
  rw [peel_is, peel_is, bare_out u h, List.filter_cons, if_neg (by simp [h]; omega), List.map_map]
  have e : (r.filter fun y => decide (y + 1 ∈ p :: r)) = r.filter fun y => decide (y + 1 ∈ r) := List.filter_congr fun y hy => by
    have := u y hy
    rw [decide_eq_decide]
    constructor
    · exact fun w => (List.mem_cons.mp w).elim (fun e => by omega) id
    · exact fun w => List.mem_cons_of_mem _ w
  rw [e]
  refine List.map_congr_left fun y hy => ?_
  have hy' := (List.mem_filter.mp hy).1
  have a := u y hy'
  have ne : y ≠ p + 1 := fun z => h (z ▸ hy')
  show y - _ = y - _ - 2
  have c : ((p :: bare r ++ (p :: bare r).map (· + 1)).filter fun g => decide (g < y)).length = ((bare r ++ (bare r).map (· + 1)).filter fun g => decide (g < y)).length + 2 := by
    rw [List.map_cons, List.filter_append, List.filter_append, List.length_append, List.length_append, List.filter_cons, if_pos (by simpa using a), List.filter_cons, if_pos (by simp; omega)]
    simp only [List.length_cons]
    omega
  rw [c]
  omega
/-- the last gap is no nought -/
noncomputable def Lst (n : Nat) : List Nat → Prop
  | [] => True
  | [g] => n ≤ g
  | _ :: b :: r => Lst n (b :: r)
theorem peel_pos : ∀ (gs : List Nat) (x : Int), Lst 1 gs → peel (pos x gs) = pos (x + ((pT gs).1 : Int)) (pT gs).2
  | [], x, _ => rfl
  | 0 :: [], x, h => absurd h (by show ¬ (1 ≤ 0); omega)
  | 0 :: b :: r, x, h => by
    have up := pos_up (0 :: b :: r) x
    have e : pos x (0 :: b :: r) = x :: pos (x + 1 + ((0 : Nat) : Int)) (b :: r) := rfl
    have hin : x + 1 ∈ pos (x + 1 + ((0 : Nat) : Int)) (b :: r) := by
      show x + 1 ∈ (x + 1 + ((0 : Nat) : Int)) :: _
      rw [Int.natCast_zero, Int.add_zero]
      exact List.mem_cons_self
    rw [e] at up ⊢
    rw [peel_in up hin, peel_pos (b :: r) _ h]
    show x :: _ = pos (x + ((0 : Nat) : Int)) ((pT (b :: r)).1 :: (pT (b :: r)).2)
    show x :: _ = (x + ((0 : Nat) : Int)) :: pos (x + ((0 : Nat) : Int) + 1 + ((pT (b :: r)).1 : Int)) (pT (b :: r)).2
    rw [Int.natCast_zero, Int.add_zero, Int.add_zero]
  | (g + 1) :: r, x, h => by
    have up := pos_up ((g + 1) :: r) x
    have e : pos x ((g + 1) :: r) = x :: pos (x + 1 + ((g + 1 : Nat) : Int)) r := rfl
    have hout : x + 1 ∉ pos (x + 1 + ((g + 1 : Nat) : Int)) r := fun z => by
      have := pos_ge r _ _ z
      omega
    have h' : Lst 1 r := by cases r with | nil => trivial | cons b r => exact h
    rw [e] at up ⊢
    rw [peel_out up hout, peel_pos r _ h', pos_shift]
    show pos _ _ = pos (x + ((g + (pT r).1 : Nat) : Int)) (pT r).2
    congr 1
    omega
/-- the top is told that a depth went out -/
noncomputable def bump (d : Nat) : List Nat → List Nat
  | [] => []
  | t :: S => max t (d + 1) :: S
/-- depths that go out by so many empty boxes, and what is held then; the top is ahead -/
noncomputable def pops : Nat → List Nat → List Nat × List Nat
  | 0, S => ([], S)
  | _ + 1, [] => ([], [])
  | g + 1, d :: S => (d :: (pops g (bump d S)).1, (pops g (bump d S)).2)
/-- all depths that go out -/
noncomputable def dps : List Nat → List Nat → List Nat
  | [], _ => []
  | g :: r, S => (pops g (1 :: S)).1 ++ dps r (pops g (1 :: S)).2
noncomputable def less (d : Nat) : Nat := max 1 (d - 1)
/-- the top is deeper than one -/
noncomputable def Deep : List Nat → Prop
  | [] => True
  | t :: _ => 2 ≤ t
/-- peeled so often -/
noncomputable def itp : Nat → List Nat → List Nat
  | 0, g => g
  | d + 1, g => itp d (pT g).2
noncomputable def ipl : Nat → List Int → List Int
  | 0, r => r
  | d + 1, r => ipl d (peel r)
theorem lst_peel (n : Nat) : ∀ gs : List Nat, Lst (n + 1) gs → Lst n (pT gs).2 ∧ ((pT gs).2 = [] → gs ≠ [] → n ≤ (pT gs).1)
  | [], _ => ⟨trivial, fun _ h => absurd rfl h⟩
  | 0 :: [], h => absurd h (by show ¬ (n + 1 ≤ 0); omega)
  | (g + 1) :: [], h => ⟨trivial, fun _ _ => by show n ≤ g + 0; have : n + 1 ≤ g + 1 := h; omega⟩
  | 0 :: b :: r, h => by
    obtain ⟨i1, i2⟩ := lst_peel n (b :: r) h
    refine ⟨?_, fun z => by cases z⟩
    show Lst n ((pT (b :: r)).1 :: (pT (b :: r)).2)
    generalize (pT (b :: r)).2 = t at i1 i2
    cases t with
    | nil => exact i2 rfl (by simp)
    | cons c t => exact i1
  | (g + 1) :: b :: r, h => by
    obtain ⟨i1, i2⟩ := lst_peel n (b :: r) h
    refine ⟨i1, fun z _ => ?_⟩
    have := i2 z (by simp)
    show n ≤ g + (pT (b :: r)).1
    omega
theorem lst_one {n : Nat} (h : 1 ≤ n) : ∀ {gs : List Nat}, Lst n gs → Lst 1 gs
  | [], _ => trivial
  | [g], z => Nat.le_trans h z
  | _ :: b :: r, z => lst_one (gs := b :: r) h z
theorem pT_lt {gs : List Nat} (h : Lst 1 gs) (ne : gs ≠ []) : (pT gs).2.length < gs.length := by
  have e := peel_pos gs 0 h
  have l := peel_lt (row := pos 0 gs) fun z => ne (by have := pos_len gs 0; rw [z] at this; exact List.length_eq_zero_iff.mp this.symm)
  rw [e, pos_len, pos_len] at l
  exact l
/-- rows and words peeled are as long -/
theorem ipl_len : ∀ (d n : Nat) (gs : List Nat) (x : Int), gs.length ≤ n → Lst n gs → (ipl d (pos x gs)).length = (itp d gs).length
  | 0, n, gs, x, _, _ => pos_len gs x
  | d + 1, n, gs, x, hl, hn => by
    cases n with
    | zero =>
      have : gs = [] := List.length_eq_zero_iff.mp (by omega)
      subst this
      exact ipl_len d 0 [] x (Nat.le_refl _) trivial
    | succ n =>
      have h1 : Lst 1 gs := lst_one (by omega) hn
      show (ipl d (peel (pos x gs))).length = (itp d (pT gs).2).length
      rw [peel_pos gs x h1]
      refine ipl_len d n _ _ ?_ (lst_peel n gs hn).1
      by_cases e : gs = []
      · subst e; exact Nat.zero_le _
      · have := pT_lt h1 e; omega
/-- the gaps between -/
noncomputable def tk : List Int → List Nat
  | [] => []
  | [_] => []
  | p :: q :: r => (q - p - 1).toNat :: tk (q :: r)
theorem tk_pos (T : Int) : ∀ row : List Int, (row ++ [T]).Pairwise (· < ·) → row = pos (row.headD 0) (tk (row ++ [T]))
  | [], _ => rfl
  | [p], up => rfl
  | p :: q :: r, up => by
    have u := List.pairwise_cons.mp up
    have ih := tk_pos T (q :: r) u.2
    have pq := u.1 q (by simp)
    show p :: q :: r = p :: pos (p + 1 + ((q - p - 1).toNat : Int)) (tk (q :: (r ++ [T])))
    rw [show p + 1 + ((q - p - 1).toNat : Int) = q by omega]
    congr 1
theorem tk_len (T : Int) : ∀ row : List Int, (tk (row ++ [T])).length = row.length
  | [] => rfl
  | [p] => rfl
  | p :: q :: r => by
    have ih := tk_len T (q :: r)
    show (tk (q :: (r ++ [T]))).length + 1 = _
    rw [show q :: (r ++ [T]) = (q :: r) ++ [T] from rfl, ih]
    rfl
theorem tk_lst (T : Int) (n : Nat) : ∀ row : List Int, (∀ p ∈ row, (n : Int) ≤ T - p - 1) → Lst n (tk (row ++ [T]))
  | [], _ => trivial
  | [p], h => by
    have := h p List.mem_cons_self
    show n ≤ (T - p - 1).toNat
    omega
  | p :: q :: r, h => by
    have ih := tk_lst T n (q :: r) fun x hx => h x (List.mem_cons_of_mem _ hx)
    show Lst n ((q - p - 1).toNat :: tk ((q :: r) ++ [T]))
    have l := tk_len T (q :: r)
    generalize tk ((q :: r) ++ [T]) = t at ih l
    cases t with
    | nil => simp at l
    | cons c t => exact ih
end BB
end
section
/-! Takings and peelings. -/
namespace BB
set_option linter.unusedVariables false
/-- how many are taken, by gaps -/
noncomputable def tg (s : Nat) : Nat → List Nat → Nat
  | _, [] => 0
  | L, g :: r => if L < s then 1 + tg s (L + 1 - g) r else tg s (L - g) r
theorem tkn_pos (s : Nat) : ∀ (gs : List Nat) (L : Nat) (box x : Int), box ≤ x → tkn s L box (pos x gs) = tg s (L - (x - box).toNat) gs
  | [], _, _, _, _ => rfl
  | g :: r, L, box, x, h => by
    show (if L - min L (x - box).toNat < s then tkn s (L - min L (x - box).toNat + 1) (x + 1) (pos (x + 1 + (g : Int)) r) + 1 else tkn s (L - min L (x - box).toNat) (x + 1) (pos (x + 1 + (g : Int)) r)) = _
    rw [tkn_pos s r _ (x + 1) _ (by omega), tkn_pos s r _ (x + 1) _ (by omega)]
    show _ = if L - (x - box).toNat < s then 1 + tg s (L - (x - box).toNat + 1 - g) r else tg s (L - (x - box).toNat - g) r
    rw [show L - min L (x - box).toNat = L - (x - box).toNat by omega, show (x + 1 + (g : Int) - (x + 1)).toNat = g by omega]
    split <;> omega
theorem taken_pos (s : Nat) (x : Int) (gs : List Nat) : taken s (pos x gs) = tg s 0 gs := by
  cases gs with
  | nil => rfl
  | cons g r =>
    unfold taken
    have := tkn_pos s (g :: r) 0 x x (Int.le_refl _)
    rw [Nat.zero_sub] at this
    exact this
/-- how many blocks there are -/
noncomputable def rn : List Nat → Nat
  | [] => 0
  | 0 :: r => rn r
  | (_ + 1) :: r => 1 + rn r
theorem rn_len : ∀ gs : List Nat, rn gs + (pT gs).2.length = gs.length
  | [] => rfl
  | 0 :: r => by
    have := rn_len r
    show rn r + ((pT r).1 :: (pT r).2).length = r.length + 1
    rw [List.length_cons]
    omega
  | (g + 1) :: r => by
    have := rn_len r
    show 1 + rn r + (pT r).2.length = r.length + 1
    omega
theorem rn_fall : ∀ gs : List Nat, rn (pT gs).2 + (if 0 < (pT gs).1 then 1 else 0) ≤ rn gs
  | [] => Nat.le_refl _
  | 0 :: r => by
    have := rn_fall r
    rw [if_neg (show ¬ 0 < (pT (0 :: r)).1 from Nat.lt_irrefl 0)]
    show rn ((pT r).1 :: (pT r).2) + 0 ≤ rn r
    cases e : (pT r).1 with
    | zero =>
      show rn (pT r).2 + 0 ≤ _
      omega
    | succ n =>
      rw [e, if_pos (Nat.succ_pos n)] at this
      show 1 + rn (pT r).2 + 0 ≤ _
      omega
  | (g + 1) :: r => by
    have := rn_fall r
    show rn (pT r).2 + (if 0 < g + (pT r).1 then 1 else 0) ≤ 1 + rn r
    split <;> omega
theorem tg_peel (t : Nat) : ∀ gs : List Nat, Lst 1 gs → (∀ L, L ≤ t → tg (t + 1) L gs = rn gs + tg t (L - (pT gs).1) (pT gs).2) ∧
    (gs ≠ [] → ∀ L, 1 ≤ L → L ≤ t + 1 → tg (t + 1) L gs + 1 = rn gs + (if L ≤ t then 1 else 0) + tg t (min L t - (pT gs).1) (pT gs).2)
  | [], _ => ⟨fun L _ => rfl, fun h => absurd rfl h⟩
  | 0 :: [], h => absurd h (by show ¬ (1 ≤ 0); omega)
  | 0 :: b :: r, h => by
    obtain ⟨_, i2⟩ := tg_peel t (b :: r) h
    have i2 := i2 (List.cons_ne_nil _ _)
    refine ⟨fun L hL => ?_, fun _ L h1 h2 => ?_⟩
    · show (if L < t + 1 then 1 + tg (t + 1) (L + 1 - 0) (b :: r) else _) = rn (b :: r) + (if L - 0 < t then 1 + tg t (L - 0 + 1 - (pT (b :: r)).1) (pT (b :: r)).2 else tg t (L - 0 - (pT (b :: r)).1) (pT (b :: r)).2)
      have := i2 (L + 1) (by omega) (by omega)
      rw [if_pos (by omega), Nat.sub_zero, Nat.sub_zero]
      by_cases c : L < t
      · rw [if_pos c]
        rw [if_pos (by omega), show min (L + 1) t = L + 1 by omega] at this
        omega
      · rw [if_neg c]
        rw [if_neg (by omega), show min (L + 1) t = L by omega] at this
        omega
    · show (if L < t + 1 then 1 + tg (t + 1) (L + 1 - 0) (b :: r) else tg (t + 1) (L - 0) (b :: r)) + 1 = rn (b :: r) + (if L ≤ t then 1 else 0) + (if min L t - 0 < t then 1 + tg t (min L t - 0 + 1 - (pT (b :: r)).1) (pT (b :: r)).2 else tg t (min L t - 0 - (pT (b :: r)).1) (pT (b :: r)).2)
      simp only [Nat.sub_zero]
      by_cases c : L < t + 1
      · have := i2 (L + 1) (by omega) (by omega)
        rw [if_pos c, if_pos (show L ≤ t by omega)]
        by_cases c2 : L < t
        · rw [if_pos (show min L t < t by omega), show min L t = L by omega]
          rw [if_pos (by omega), show min (L + 1) t = L + 1 by omega] at this
          omega
        · rw [if_neg (show ¬ min L t < t by omega), show min L t = t by omega]
          rw [if_neg (by omega), show min (L + 1) t = t by omega] at this
          omega
      · have := i2 L h1 h2
        rw [if_neg c, if_neg (show ¬ L ≤ t by omega), if_neg (show ¬ min L t < t by omega)]
        rw [if_neg (by omega)] at this
        omega
  | (g + 1) :: r, h => by
    have h' : Lst 1 r := by cases r with | nil => trivial | cons b r => exact h
    obtain ⟨i1, _⟩ := tg_peel t r h'
    refine ⟨fun L hL => ?_, fun _ L h1 h2 => ?_⟩
    · show (if L < t + 1 then 1 + tg (t + 1) (L + 1 - (g + 1)) r else _) = 1 + rn r + tg t (L - (g + (pT r).1)) (pT r).2
      rw [if_pos (by omega), i1 _ (by omega), show L + 1 - (g + 1) - (pT r).1 = L - (g + (pT r).1) by omega]
      omega
    · show (if L < t + 1 then 1 + tg (t + 1) (L + 1 - (g + 1)) r else tg (t + 1) (L - (g + 1)) r) + 1 = 1 + rn r + (if L ≤ t then 1 else 0) + tg t (min L t - (g + (pT r).1)) (pT r).2
      by_cases c : L < t + 1
      · rw [if_pos c, if_pos (show L ≤ t by omega), i1 _ (by omega), show L + 1 - (g + 1) - (pT r).1 = min L t - (g + (pT r).1) by omega]
        omega
      · rw [if_neg c, if_neg (show ¬ L ≤ t by omega), i1 _ (by omega), show L - (g + 1) - (pT r).1 = min L t - (g + (pT r).1) by omega]
        omega
theorem tg_none : ∀ (gs : List Nat) (L : Nat), tg 0 L gs = 0
  | [], _ => rfl
  | g :: r, L => by
    show (if L < 0 then _ else tg 0 (L - g) r) = 0
    rw [if_neg (Nat.not_lt_zero _)]
    exact tg_none r _
theorem tg_itp : ∀ (s n : Nat) (gs : List Nat), gs.length ≤ n → Lst n gs → tg s 0 gs + (itp s gs).length = gs.length
  | 0, n, gs, _, _ => by
    rw [tg_none]
    show 0 + gs.length = _
    omega
  | s + 1, n, gs, hl, hn => by
    by_cases e : gs = []
    · subst e
      have : ∀ s, itp s [] = [] := fun s => by
        induction s with
        | zero => rfl
        | succ s ih => exact ih
      rw [this]
      rfl
    · obtain ⟨m, rfl⟩ : ∃ m, n = m + 1 := ⟨n - 1, by have := List.length_pos_iff.mpr e; omega⟩
      have h1 : Lst 1 gs := lst_one (by omega) hn
      have p := (tg_peel s gs h1).1 0 (Nat.zero_le _)
      rw [Nat.zero_sub] at p
      have lt := pT_lt h1 e
      have ih := tg_itp s m (pT gs).2 (by omega) (lst_peel m gs hn).1
      have r := rn_len gs
      show tg (s + 1) 0 gs + (itp s (pT gs).2).length = _
      omega
theorem far_T : ∀ (row : List Int) (n : Int), ∃ T, ∀ p ∈ row, n ≤ T - p - 1 ∧ p < T
  | [], n => ⟨0, fun p h => by cases h⟩
  | q :: r, n => by
    obtain ⟨T, h⟩ := far_T r n
    refine ⟨max T (q + n.toNat + 1), fun p hp => ?_⟩
    rcases List.mem_cons.mp hp with e | e
    · subst e; omega
    · have := h p e; omega
/-- a row by its gaps -/
theorem gaps_of {row : List Int} (up : row.Pairwise (· < ·)) : ∃ (x : Int) (gs : List Nat), row = pos x gs ∧ gs.length = row.length ∧ Lst row.length gs := by
  obtain ⟨T, hT⟩ := far_T row row.length
  refine ⟨row.headD 0, tk (row ++ [T]), tk_pos T row ?_, tk_len T row, tk_lst T row.length row fun p hp => (hT p hp).1⟩
  refine List.pairwise_append.mpr ⟨up, List.pairwise_singleton _ _, fun a ha b hb => ?_⟩
  rw [List.mem_singleton] at hb
  subst hb
  exact (hT a ha).2
/-- what is taken is what so many peelings take out -/
theorem taken_ipl (s : Nat) {row : List Int} (up : row.Pairwise (· < ·)) : taken s row + (ipl s row).length = row.length := by
  obtain ⟨x, gs, e, l, h⟩ := gaps_of up
  have a := ipl_len s row.length gs x (by omega) h
  have b := tg_itp s row.length gs (by omega) h
  rw [e, taken_pos, a, pos_len]
  exact b
theorem itp_succ : ∀ (d : Nat) (gs : List Nat), itp (d + 1) gs = (pT (itp d gs)).2
  | 0, _ => rfl
  | d + 1, gs => itp_succ d (pT gs).2
/-- never more go out than the time ahead -/
theorem ipl_fall {row : List Int} (up : row.Pairwise (· < ·)) (d : Nat) : (ipl (d + 1) row).length + (ipl (d + 1) row).length ≤ (ipl d row).length + (ipl (d + 2) row).length := by
  obtain ⟨x, gs, e, l, h⟩ := gaps_of up
  have a := ipl_len d row.length gs x (by omega) h
  have b := ipl_len (d + 1) row.length gs x (by omega) h
  have c := ipl_len (d + 2) row.length gs x (by omega) h
  rw [e, a, b, c]
  have r1 := rn_len (itp d gs)
  have r2 := rn_len (itp (d + 1) gs)
  have r3 := rn_fall (itp d gs)
  rw [← itp_succ] at r1 r2 r3
  rw [show d + 1 + 1 = d + 2 from rfl] at r2
  split at r3 <;> omega
/-- how many go out, time by time -/
noncomputable def outs : Nat → List Int → List Int
  | 0, _ => []
  | n + 1, row => if row = [] then [] else ((row.length : Int) - ((peel row).length : Int)) :: outs n (peel row)
noncomputable def lens (cs : List Int) : List Int := (List.range (cs.headD 0).toNat).map fun (j : Nat) => ((cs.filter fun c => decide ((j : Int) < c)).length : Int)
theorem ipl_nil : ∀ d : Nat, ipl d [] = []
  | 0 => rfl
  | d + 1 => ipl_nil d
theorem outs_eq : ∀ (n : Nat) (r r' : List Int), (∀ d, (ipl d r).length = (ipl d r').length) → outs n r = outs n r'
  | 0, _, _, _ => rfl
  | n + 1, r, r', h => by
    have h0 : r.length = r'.length := h 0
    have h1 : (peel r).length = (peel r').length := h 1
    unfold outs
    by_cases e : r = []
    · have e' : r' = [] := List.length_eq_zero_iff.mp (by rw [← h0, e]; rfl)
      rw [if_pos e, if_pos e']
    · have e' : r' ≠ [] := fun z => e (List.length_eq_zero_iff.mp (by rw [h0, z]; rfl))
      rw [if_neg e, if_neg e', h0, h1, outs_eq n _ _ fun d => h (d + 1)]
theorem outs_sum : ∀ (n s : Nat) (r : List Int), r.length ≤ n → ((outs n r).take s).sum + ((ipl s r).length : Int) = (r.length : Int)
  | 0, s, r, h => by
    have e : r = [] := List.length_eq_zero_iff.mp (by omega)
    subst e
    rw [ipl_nil]
    show (([] : List Int).take s).sum + _ = _
    rw [List.take_nil]
    rfl
  | n + 1, 0, r, h => by
    rw [List.take_zero]
    show (0 : Int) + _ = _
    show (0 : Int) + (r.length : Int) = _
    omega
  | n + 1, s + 1, r, h => by
    by_cases e : r = []
    · subst e
      rw [ipl_nil]
      show ((if ([] : List Int) = [] then ([] : List Int) else _).take (s + 1)).sum + _ = _
      rw [if_pos rfl, List.take_nil]
      rfl
    · have lt := peel_lt e
      have ih := outs_sum n s (peel r) (by omega)
      show (List.take (s + 1) (if r = [] then [] else ((r.length : Int) - ((peel r).length : Int)) :: outs n (peel r))).sum + ((ipl s (peel r)).length : Int) = _
      rw [if_neg e, List.take_succ_cons, List.sum_cons]
      omega
theorem outs_head : ∀ (n : Nat) (r : List Int), ∀ c ∈ (outs n r).head?, c = (r.length : Int) - ((peel r).length : Int) ∧ r ≠ []
  | 0, r, c, h => by cases h
  | n + 1, r, c, h => by
    unfold outs at h
    by_cases e : r = []
    · rw [if_pos e] at h; cases h
    · rw [if_neg e] at h
      exact ⟨(Option.some.inj h).symm, e⟩
theorem outs_fall : ∀ (n : Nat) (r : List Int), (∀ d, (ipl (d + 1) r).length + (ipl (d + 1) r).length ≤ (ipl d r).length + (ipl (d + 2) r).length) →
    (outs n r).Pairwise (· ≥ ·) ∧ ∀ c ∈ outs n r, 0 ≤ c ∧ c ≤ (r.length : Int) - ((peel r).length : Int)
  | 0, _, _ => ⟨.nil, fun c h => by cases h⟩
  | n + 1, r, h => by
    obtain ⟨i1, i2⟩ := outs_fall n (peel r) fun d => h (d + 1)
    unfold outs
    by_cases e : r = []
    · rw [if_pos e]
      exact ⟨.nil, fun c h => by cases h⟩
    · rw [if_neg e]
      have lt := peel_lt e
      have h0 : (peel r).length + (peel r).length ≤ r.length + (peel (peel r)).length := h 0
      refine ⟨List.pairwise_cons.mpr ⟨fun c hc => ?_, i1⟩, fun c hc => ?_⟩
      · have := i2 c hc
        show c ≤ _
        omega
      · rcases List.mem_cons.mp hc with z | z
        · omega
        · have := i2 c z
          omega
theorem take_filter (p : Int) : ∀ (cs : List Int) (s : Nat), cs.Pairwise (· ≥ ·) → ((cs.take s).filter fun c => decide (p < c)).length = min s (cs.filter fun c => decide (p < c)).length
  | [], s, _ => by rw [List.take_nil]; exact (Nat.min_zero _).symm
  | x :: cs, 0, _ => by rw [List.take_zero]; exact (Nat.zero_min _).symm
  | x :: cs, s + 1, h => by
    obtain ⟨h1, h2⟩ := List.pairwise_cons.mp h
    rw [List.take_succ_cons, List.filter_cons, List.filter_cons]
    by_cases c : p < x
    · rw [if_pos (decide_eq_true c), if_pos (decide_eq_true c), List.length_cons, List.length_cons, take_filter p cs s h2]
      omega
    · rw [if_neg (by simpa using c), if_neg (by simpa using c), List.filter_eq_nil_iff.mpr fun y hy => ?_, List.filter_eq_nil_iff.mpr fun y hy => ?_]
      · exact (Nat.min_zero _).symm
      · have := h1 y hy
        simp; omega
      · have := h1 y (List.mem_of_mem_take hy)
        simp; omega
theorem sum_one (x : Int) : ∀ h : Nat, 0 ≤ x → x ≤ (h : Int) → ((List.range h).map fun (j : Nat) => if (j : Int) < x then (1 : Int) else 0).sum = x := by
  have gen : ∀ (h : Nat), 0 ≤ x → ((List.range h).map fun (j : Nat) => if (j : Int) < x then (1 : Int) else 0).sum = min (h : Int) x := fun h h0 => by
    induction h with
    | zero => show (0 : Int) = _; omega
    | succ h ih =>
      rw [List.range_succ, List.map_append, List.sum_append, ih]
      show _ + ((if (h : Int) < x then (1 : Int) else 0) + 0) = _
      split <;> omega
  intro h h0 h1
  rw [gen h h0]
  omega
theorem sum_add (f g : Nat → Int) : ∀ l : List Nat, (l.map fun j => f j + g j).sum = (l.map f).sum + (l.map g).sum
  | [] => rfl
  | x :: l => by
    rw [List.map_cons, List.map_cons, List.map_cons, List.sum_cons, List.sum_cons, List.sum_cons, sum_add f g l]
    omega
theorem sum_rows (h : Nat) : ∀ l : List Int, (∀ c ∈ l, 0 ≤ c ∧ c ≤ (h : Int)) → ((List.range h).map fun (j : Nat) => ((l.filter fun c => decide ((j : Int) < c)).length : Int)).sum = l.sum
  | [], _ => by
    show ((List.range h).map fun (j : Nat) => ((0 : Nat) : Int)).sum = 0
    generalize List.range h = r
    induction r with
    | nil => rfl
    | cons x r ih => rw [List.map_cons, List.sum_cons, ih]; rfl
  | x :: l, hb => by
    have ih := sum_rows h l fun c hc => hb c (List.mem_cons_of_mem _ hc)
    have hx := hb x List.mem_cons_self
    have e : (fun (j : Nat) => (((x :: l).filter fun c => decide ((j : Int) < c)).length : Int)) = fun (j : Nat) => (if (j : Int) < x then (1 : Int) else 0) + ((l.filter fun c => decide ((j : Int) < c)).length : Int) := by
      funext j
      rw [List.filter_cons]
      by_cases c : (j : Int) < x
      · rw [if_pos (decide_eq_true c), if_pos c, List.length_cons]
        omega
      · rw [if_neg (by simpa using c), if_neg c, Int.zero_add]
    rw [e, sum_add, ih, sum_one x h hx.1 hx.2, List.sum_cons]
/-- the lengths, each counted as at most the size -/
theorem sum_lens (s : Nat) {cs : List Int} (h : cs.Pairwise (· ≥ ·)) (h0 : ∀ c ∈ cs, 0 ≤ c) : ((lens cs).map fun l => if l < (s : Int) then l else (s : Int)).sum = (cs.take s).sum := by
  have hh : ∀ c ∈ cs, c ≤ ((cs.headD 0).toNat : Int) := fun c hc => by
    cases cs with
    | nil => cases hc
    | cons x r =>
      have := h0 x List.mem_cons_self
      show c ≤ (x.toNat : Int)
      rcases List.mem_cons.mp hc with z | z
      · omega
      · have := (List.pairwise_cons.mp h).1 c z; omega
  rw [← sum_rows (cs.headD 0).toNat (cs.take s) fun c hc => ⟨h0 c (List.mem_of_mem_take hc), hh c (List.mem_of_mem_take hc)⟩]
  unfold lens
  rw [List.map_map]
  congr 1
  refine List.map_congr_left fun j _ => ?_
  show (if ((cs.filter fun c => decide ((j : Int) < c)).length : Int) < (s : Int) then ((cs.filter fun c => decide ((j : Int) < c)).length : Int) else (s : Int)) = _
  rw [take_filter (j : Int) cs s h]
  split <;> omega
/-- takings by lengths -/
theorem taken_lens (s : Nat) {row : List Int} (up : row.Pairwise (· < ·)) : (taken s row : Int) = ((lens (outs row.length row)).map fun l => if l < (s : Int) then l else (s : Int)).sum := by
  obtain ⟨a, b⟩ := outs_fall row.length row (ipl_fall up)
  rw [sum_lens s a fun c hc => (b c hc).1]
  have c := outs_sum row.length s row (Nat.le_refl _)
  have d := taken_ipl s up
  omega
end BB
end
section
/-! Two carriers, one behind the other: whichever is first. -/
namespace BB
set_option linter.unusedVariables false
set_option maxHeartbeats 4000000
noncomputable def tk1 (z L : Nat) (b : Bool) : Nat := if b = true ∧ L < z then 1 else 0
/-- the loads p, q where the other carrier is first -/
structure Rl (a b u v p q A B : Nat) : Prop where
  e1 : p + B = v + A
  e2 : q + A = u + B
  a1 : A ≤ u
  a2 : A + v ≤ b
  a3 : A = u ∨ A + v = b
  b1 : B ≤ v
  b2 : B + u ≤ a
  b3 : B = v ∨ B + u = a
theorem stp_tl {z L : Nat} (h : L < z) : stp z L true = (L + 1, false) := if_pos h
theorem stp_tg {z L : Nat} (h : L = z) : stp z L true = (L, true) := if_neg (Nat.not_lt.mpr (Nat.le_of_eq h.symm))
theorem tk1_l {z L : Nat} (h : L < z) : tk1 z L true = 1 := if_pos ⟨rfl, h⟩
theorem tk1_g {z L : Nat} (h : L = z) : tk1 z L true = 0 := if_neg fun y => Nat.lt_irrefl _ (h ▸ y.2)
/-- one box: both ways let the same behind -/
noncomputable def One (a b u v p q A : Nat) (x : Bool) : Prop := (stp a q (stp b p x).2).2 = (stp b v (stp a u x).2).2 ∧ ∃ A' B', Rl a b (stp a u x).1 (stp b v (stp a u x).2).1 (stp b p x).1 (stp a q (stp b p x).2).1 A' B' ∧ tk1 b v (stp a u x).2 + A' = tk1 b p x + A
theorem lf1 {a b A B p q u v : Nat} (h : Rl a b (u + 1) v (p + 1) q (A + 1) B) (c : v < b) (d : q < a) : One a b (u + 1) v (p + 1) q (A + 1) false := by
  obtain ⟨e1, e2, a1, a2, a3, b1, b2, b3⟩ := h
  unfold One
  rw [show stp a (u + 1) false = (u, true) from rfl, stp_tl c, show stp b (p + 1) false = (p, true) from rfl, stp_tl d, tk1_l c, show tk1 b (p + 1) false = 0 from rfl]
  exact ⟨rfl, A, B + 1, ⟨by omega, by omega, by omega, by omega, a3.imp (fun z => by omega) fun z => by omega, by omega, by omega, b3.imp (fun z => by omega) fun z => by omega⟩, by show (_ : Nat) = _; omega⟩
theorem lf2 {a b A B p q u v : Nat} (h : Rl a b (u + 1) v (p + 1) q A B) (c : v = b) (d : q = a) : One a b (u + 1) v (p + 1) q A false := by
  obtain ⟨e1, e2, a1, a2, a3, b1, b2, b3⟩ := h
  unfold One
  rw [show stp a (u + 1) false = (u, true) from rfl, stp_tg c, show stp b (p + 1) false = (p, true) from rfl, stp_tg d, tk1_g c, show tk1 b (p + 1) false = 0 from rfl]
  exact ⟨rfl, 0, B + 1, ⟨by omega, by omega, by omega, by omega, .inr (by omega), by omega, by omega, .inr (by omega)⟩, by show (_ : Nat) = _; omega⟩
theorem lf3 {a b A B q u v : Nat} (h : Rl a b (u + 1) v 0 (q + 1) A B) (c : v = b) : One a b (u + 1) v 0 (q + 1) A false := by
  obtain ⟨e1, e2, a1, a2, a3, b1, b2, b3⟩ := h
  unfold One
  rw [show stp a (u + 1) false = (u, true) from rfl, stp_tg c, show stp b 0 false = (0, false) from rfl, show stp a (q + 1) false = (q, true) from rfl, tk1_g c, show tk1 b (0) false = 0 from rfl]
  exact ⟨rfl, 0, v, ⟨by omega, by omega, by omega, by omega, .inr (by omega), by omega, by omega, .inl rfl⟩, by show (_ : Nat) = _; omega⟩
theorem lf4 {a b A B p q v : Nat} (h : Rl a b 0 (v + 1) (p + 1) q A B) (d : q = a) : One a b 0 (v + 1) (p + 1) q A false := by
  obtain ⟨e1, e2, a1, a2, a3, b1, b2, b3⟩ := h
  unfold One
  rw [show stp a 0 false = (0, false) from rfl, show stp b (v + 1) false = (v, true) from rfl, show stp b (p + 1) false = (p, true) from rfl, stp_tg d, show tk1 b (v + 1) false = 0 from rfl, show tk1 b (p + 1) false = 0 from rfl]
  exact ⟨rfl, 0, B, ⟨by omega, by omega, by omega, by omega, .inl rfl, by omega, by omega, .inr (by omega)⟩, by show (_ : Nat) = _; omega⟩
theorem lf5 {a b A B q v : Nat} (h : Rl a b 0 (v + 1) 0 (q + 1) A B) : One a b 0 (v + 1) 0 (q + 1) A false := by
  obtain ⟨e1, e2, a1, a2, a3, b1, b2, b3⟩ := h
  unfold One
  rw [show stp a 0 false = (0, false) from rfl, show stp b (v + 1) false = (v, true) from rfl, show stp b 0 false = (0, false) from rfl, show stp a (q + 1) false = (q, true) from rfl, show tk1 b (v + 1) false = 0 from rfl, show tk1 b (0) false = 0 from rfl]
  exact ⟨rfl, 0, v, ⟨by omega, by omega, by omega, by omega, .inl rfl, by omega, by omega, .inl rfl⟩, by show (_ : Nat) = _; omega⟩
theorem lf6 {a b A B : Nat} (h : Rl a b 0 0 0 0 A B) : One a b 0 0 0 0 A false := by
  obtain ⟨e1, e2, a1, a2, a3, b1, b2, b3⟩ := h
  unfold One
  rw [show stp a 0 false = (0, false) from rfl, show stp b 0 false = (0, false) from rfl, show stp a 0 false = (0, false) from rfl, show tk1 b (0) false = 0 from rfl]
  exact ⟨rfl, 0, 0, ⟨by omega, by omega, by omega, by omega, .inl rfl, by omega, by omega, .inl rfl⟩, by show (_ : Nat) = _; omega⟩
theorem lf7 {a b A B p q u v : Nat} (h : Rl a b u (v + 1) p (q + 1) A (B + 1)) (c : u < a) (d : p < b) : One a b u (v + 1) p (q + 1) A true := by
  obtain ⟨e1, e2, a1, a2, a3, b1, b2, b3⟩ := h
  unfold One
  rw [stp_tl c, show stp b (v + 1) false = (v, true) from rfl, stp_tl d, show stp a (q + 1) false = (q, true) from rfl, show tk1 b (v + 1) false = 0 from rfl, tk1_l d]
  exact ⟨rfl, A + 1, B, ⟨by omega, by omega, by omega, by omega, a3.imp (fun z => by omega) fun z => by omega, by omega, by omega, b3.imp (fun z => by omega) fun z => by omega⟩, by show (_ : Nat) = _; omega⟩
theorem lf8 {a b A B p u : Nat} (h : Rl a b u 0 p 0 A B) (c : u < a) (d : p < b) : One a b u 0 p 0 A true := by
  obtain ⟨e1, e2, a1, a2, a3, b1, b2, b3⟩ := h
  unfold One
  rw [stp_tl c, show stp b 0 false = (0, false) from rfl, stp_tl d, show stp a 0 false = (0, false) from rfl, show tk1 b (0) false = 0 from rfl, tk1_l d]
  exact ⟨rfl, u + 1, 0, ⟨by omega, by omega, by omega, by omega, .inl rfl, by omega, by omega, .inl rfl⟩, by show (_ : Nat) = _; omega⟩
theorem lf9 {a b A B p q u : Nat} (h : Rl a b u 0 p q A B) (c : u < a) (d : p = b) (e : q < a) : One a b u 0 p q A true := by
  obtain ⟨e1, e2, a1, a2, a3, b1, b2, b3⟩ := h
  unfold One
  rw [stp_tl c, show stp b 0 false = (0, false) from rfl, stp_tg d, stp_tl e, show tk1 b (0) false = 0 from rfl, tk1_g d]
  exact ⟨rfl, b, 0, ⟨by omega, by omega, by omega, by omega, .inr rfl, by omega, by omega, .inl rfl⟩, by show (_ : Nat) = _; omega⟩
theorem lfa {a b A B p u v : Nat} (h : Rl a b u v p 0 A B) (c : u = a) (d : v < b) (e : p < b) : One a b u v p 0 A true := by
  obtain ⟨e1, e2, a1, a2, a3, b1, b2, b3⟩ := h
  unfold One
  rw [stp_tg c, stp_tl d, stp_tl e, show stp a 0 false = (0, false) from rfl, tk1_l d, tk1_l e]
  exact ⟨rfl, u, 0, ⟨by omega, by omega, by omega, by omega, .inl rfl, by omega, by omega, .inr (by omega)⟩, by show (_ : Nat) = _; omega⟩
theorem lfb {a b A B p q u v : Nat} (h : Rl a b u v p q (A + 1) B) (c : u = a) (d : v < b) (e : p = b) (f : q < a) : One a b u v p q (A + 1) true := by
  obtain ⟨e1, e2, a1, a2, a3, b1, b2, b3⟩ := h
  unfold One
  rw [stp_tg c, stp_tl d, stp_tg e, stp_tl f, tk1_l d, tk1_g e]
  exact ⟨rfl, A, 0, ⟨by omega, by omega, by omega, by omega, .inr (by omega), by omega, by omega, .inr (by omega)⟩, by show (_ : Nat) = _; omega⟩
theorem lfc {a b A B p q u v : Nat} (h : Rl a b u v p q A B) (c : u = a) (d : v = b) (e : p = b) (f : q = a) : One a b u v p q A true := by
  obtain ⟨e1, e2, a1, a2, a3, b1, b2, b3⟩ := h
  unfold One
  rw [stp_tg c, stp_tg d, stp_tg e, stp_tg f, tk1_g d, tk1_g e]
  exact ⟨rfl, 0, 0, ⟨by omega, by omega, by omega, by omega, .inr (by omega), by omega, by omega, .inr (by omega)⟩, by show (_ : Nat) = _; omega⟩
theorem swap_one {a b u v p q A B : Nat} (h : Rl a b u v p q A B) : ∀ x : Bool, One a b u v p q A x
  | false => by
    have h' := h
    obtain ⟨e1, e2, a1, a2, a3, b1, b2, b3⟩ := h
    cases u with
    | succ u =>
      by_cases c : v < b
      · cases A with
        | zero => omega
        | succ A =>
          cases p with
          | zero => omega
          | succ p => exact lf1 h' c (by omega)
      · have c' : v = b := by omega
        cases p with
        | succ p => exact lf2 h' c' (by omega)
        | zero =>
          cases q with
          | zero => omega
          | succ q => exact lf3 h' c'
    | zero =>
      cases v with
      | succ v =>
        cases p with
        | succ p => exact lf4 h' (by omega)
        | zero =>
          cases q with
          | zero => omega
          | succ q => exact lf5 h'
      | zero =>
        have z1 : p = 0 := by omega
        have z2 : q = 0 := by omega
        subst z1 z2
        exact lf6 h'
  | true => by
    have h' := h
    obtain ⟨e1, e2, a1, a2, a3, b1, b2, b3⟩ := h
    by_cases c : u < a
    · cases v with
      | succ v =>
        cases B with
        | zero => omega
        | succ B =>
          cases q with
          | zero => omega
          | succ q => exact lf7 h' c (by omega)
      | zero =>
        by_cases d : p < b
        · have z : q = 0 := by omega
          subst z
          exact lf8 h' c d
        · exact lf9 h' c (by omega) (by omega)
    · have c' : u = a := by omega
      by_cases d : v < b
      · by_cases e : p < b
        · have z : q = 0 := by omega
          subst z
          exact lfa h' c' d e
        · cases A with
          | zero => omega
          | succ A => exact lfb h' c' d (by omega) (by omega)
      · exact lfc h' c' (by omega) (by omega) (by omega)
/-- how many are taken, box by box -/
noncomputable def tb (z : Nat) : Nat → List Bool → Nat
  | _, [] => 0
  | L, b :: r => tk1 z L b + tb z (stp z L b).1 r
theorem swap_all {a b : Nat} : ∀ (bs : List Bool) {u v p q A B : Nat}, Rl a b u v p q A B →
    out a q (out b p bs) = out b v (out a u bs) ∧ ∃ A' B', Rl a b (fin a u bs) (fin b v (out a u bs)) (fin b p bs) (fin a q (out b p bs)) A' B' ∧ tb b v (out a u bs) + A' = tb b p bs + A
  | [], u, v, p, q, A, B, h => ⟨rfl, A, B, h, rfl⟩
  | x :: bs, u, v, p, q, A, B, h => by
    obtain ⟨h1, A1, B1, r1, t1⟩ := swap_one h x
    obtain ⟨i1, A2, B2, r2, t2⟩ := swap_all bs r1
    refine ⟨?_, A2, B2, r2, ?_⟩
    · show (stp a q (stp b p x).2).2 :: out a (stp a q (stp b p x).2).1 (out b (stp b p x).1 bs) = (stp b v (stp a u x).2).2 :: out b (stp b v (stp a u x).2).1 (out a (stp a u x).1 bs)
      rw [h1, i1]
    · show tk1 b v (stp a u x).2 + tb b (stp b v (stp a u x).2).1 (out a (stp a u x).1 bs) + A2 = tk1 b p x + tb b (stp b p x).1 bs + A
      omega
theorem tkn_places (z : Nat) : ∀ (bs : List Bool) (L : Nat) (lo : Int), L ≤ z → tkn z L lo (places lo bs) = tb z L bs
  | [], _, _, _ => rfl
  | true :: r, L, lo, h => by
    have e : places lo (true :: r) = lo :: places (lo + 1) r := rfl
    rw [e]
    show (if L - min L (lo - lo).toNat < z then tkn z (L - min L (lo - lo).toNat + 1) (lo + 1) (places (lo + 1) r) + 1 else tkn z (L - min L (lo - lo).toNat) (lo + 1) (places (lo + 1) r)) = tk1 z L true + tb z (stp z L true).1 r
    rw [show L - min L (lo - lo).toNat = L by omega]
    unfold tk1 stp
    by_cases c : L < z
    · rw [if_pos c, if_pos ⟨rfl, c⟩, tkn_places z r (L + 1) (lo + 1) (by omega)]
      simp only [if_true, if_pos c]
      omega
    · rw [if_neg c, if_neg (fun z => c z.2), tkn_places z r L (lo + 1) h]
      simp only [if_true, if_neg c]
      omega
  | false :: r, L, lo, h => by
    have e : places lo (false :: r) = places (lo + 1) r := rfl
    rw [e, tkn_gap fun p hp => (places_ge hp).1, tkn_places z r (L - 1) (lo + 1) (by omega)]
    show _ = tk1 z L false + tb z (stp z L false).1 r
    unfold tk1 stp
    rw [if_neg (by simp)]
    by_cases c : 0 < L
    · simp only [Bool.false_eq_true, if_false, if_pos c]; omega
    · have : L = 0 := by omega
      subst this
      simp
theorem taken_places {z : Nat} {lo : Int} {bs : List Bool} : taken z (places lo bs) = tb z 0 bs := by
  unfold taken
  rw [tkn_free (box' := lo), tkn_places z bs 0 lo (Nat.zero_le _)]
theorem out_falses (z : Nat) : ∀ (n L : Nat), out z L (List.replicate n false) = List.replicate (min L n) true ++ List.replicate (n - L) false
  | 0, L => by rw [Nat.min_zero, Nat.zero_sub]; rfl
  | n + 1, L => by
    rw [List.replicate_succ]
    show (stp z L false).2 :: out z (stp z L false).1 (List.replicate n false) = _
    rw [out_falses z n]
    unfold stp
    by_cases c : 0 < L
    · simp only [Bool.false_eq_true, if_false, if_pos c]
      rw [show min L (n + 1) = min (L - 1) n + 1 by omega, List.replicate_succ, show n + 1 - L = n - (L - 1) by omega]
      rfl
    · have : L = 0 := by omega
      subst this
      simp [List.replicate_succ]
theorem fin_few {z L : Nat} {bs : List Bool} : fin z L bs ≤ L + bs.count true := by
  have := count_out (z := z) (L := L) (bs := bs)
  omega
/-- room enough for two carriers -/
theorem room2 {r : List Int} {k : Nat} {A B : Int} (h : Rw r k A B) : ∃ bs : List Bool, places A bs = r ∧ ∀ a b : Nat, fin a 0 bs = 0 ∧ fin b 0 (out a 0 bs) = 0 := by
  obtain ⟨cs, e1, e2⟩ := cells (B - A + 1).toNat A r h.up (fun p hp => by have := h.bd p hp; omega)
  have hk : cs.count true = k := by rw [← places_length A cs, e2, h.len]
  refine ⟨cs ++ List.replicate (2 * k) false, ?_, fun a b => ?_⟩
  · rw [places_append, places_falses, List.append_nil, e2]
  · have f1 := fin_few (z := a) (L := 0) (bs := cs)
    have c1 := count_out (z := a) (L := 0) (bs := cs)
    refine ⟨by rw [fin_append, fin_falses]; omega, ?_⟩
    rw [out_append, out_falses, ← List.append_assoc, fin_append, fin_falses]
    have f2 := fin_few (z := b) (L := 0) (bs := out a 0 cs ++ List.replicate (min (fin a 0 cs) (2 * k)) true)
    rw [List.count_append, List.count_replicate_self] at f2
    omega
/-- steps of two sizes, whichever is first; and what one takes, the other's step ahead or not -/
theorem comm {r : List Int} {k : Nat} {A B : Int} (a b : Nat) (h : Rw r k A B) : step b (step a r) = step a (step b r) ∧ taken b (step a r) = taken b r := by
  obtain ⟨bs, e, f⟩ := room2 h
  obtain ⟨i1, A', B', r1, i4⟩ := swap_all (a := a) (b := b) bs (u := 0) (v := 0) (p := 0) (q := 0) (A := 0) (B := 0) ⟨rfl, rfl, Nat.le_refl _, Nat.zero_le _, .inl rfl, Nat.le_refl _, Nat.zero_le _, .inl rfl⟩
  obtain ⟨fa, fb⟩ := f a b
  obtain ⟨fb', fa'⟩ := f b a
  have z := r1.a1
  rw [fa] at z
  rw [← e, step_places fa, step_places fb', step_places fb, step_places fa', taken_places, taken_places, i1]
  refine ⟨rfl, ?_⟩
  omega
/-- so peelings stay as many -/
theorem ipl_step {r : List Int} {k : Nat} {A B : Int} (a d : Nat) (h : Rw r k A B) : (ipl d (step a r)).length = (ipl d r).length := by
  have h2 := h.step a
  have t1 := taken_ipl d h.up
  have t2 := taken_ipl d h2.up
  have c := (comm a d h).2
  have l1 := h.len
  have l2 := h2.len
  omega
theorem lens_step {r : List Int} {k : Nat} {A B : Int} (a : Nat) (h : Rw r k A B) : outs (step a r).length (step a r) = outs r.length r := by
  rw [(h.step a).len, h.len]
  exact outs_eq k _ _ fun d => ipl_step a d h
theorem tkn_great {z : Nat} : ∀ (R : List Int) (L : Nat) (box : Int), L + R.length ≤ z → tkn z L box R = R.length
  | [], _, _, _ => rfl
  | p :: r, L, box, h => by
    rw [List.length_cons] at h
    unfold tkn
    rw [if_pos (by omega), tkn_great r _ _ (by omega), List.length_cons]
theorem taken_great {z : Nat} {r : List Int} (h : r.length ≤ z) : taken z r = r.length := tkn_great r 0 _ (by omega)
end BB
end
section
/-! Rings: balls and their partners, round. -/
namespace BB
set_option linter.unusedVariables false
/-- how many are to be laid yet, so many boxes behind b, where S tells which boxes have balls -/
noncomputable def wk (S : Int → Bool) (b : Int) : Nat → Int
  | 0 => 1
  | d + 1 => wk S b d + if S (b + (d : Int) + 1) = true then 1 else -1
noncomputable def Pt (S : Int → Bool) (b : Int) (d : Nat) : Prop := wk S b d = 0 ∧ ∀ e, e < d → 0 < wk S b e
theorem wk_row (row : List Int) (b : Int) : ∀ d, wk (fun x => decide (x ∈ row)) b d = wlk row b d
  | 0 => rfl
  | d + 1 => by
    show wk _ b d + _ = wlk row b d + _
    rw [wk_row row b d]
    by_cases c : b + (d : Int) + 1 ∈ row
    · rw [if_pos c, if_pos (decide_eq_true c)]
    · rw [if_neg c, if_neg (fun z => c (of_decide_eq_true z))]
theorem pt_row {row : List Int} {b : Int} {d : Nat} : Pt (fun x => decide (x ∈ row)) b d ↔ Prt row b d := by
  unfold Pt Prt
  simp only [wk_row]
theorem wk_add (S : Int → Bool) (b : Int) (d : Nat) : ∀ e : Nat, wk S b (d + e) = wk S b d + wk S (b + (d : Int)) e - 1
  | 0 => by show wk S b d = wk S b d + 1 - 1; omega
  | e + 1 => by
    show wk S b (d + e) + (if S (b + ((d + e : Nat) : Int) + 1) = true then (1 : Int) else -1) = wk S b d + (wk S (b + (d : Int)) e + (if S (b + (d : Int) + (e : Int) + 1) = true then (1 : Int) else -1)) - 1
    rw [wk_add S b d e, show b + ((d + e : Nat) : Int) + 1 = b + (d : Int) + (e : Int) + 1 by omega]
    generalize (if S (b + (d : Int) + (e : Int) + 1) = true then (1 : Int) else -1) = z
    omega
theorem pt_end {S : Int → Bool} {b : Int} {d : Nat} (h : Pt S b d) : ∃ n, d = n + 1 ∧ wk S b n = 1 ∧ S (b + (d : Int)) = false := by
  cases d with
  | zero => exact absurd h.1 (by show ¬ (1 : Int) = 0; omega)
  | succ n =>
    have a := h.2 n (Nat.lt_succ_self _)
    have e : wk S b n + (if S (b + (n : Int) + 1) = true then (1 : Int) else -1) = 0 := h.1
    refine ⟨n, rfl, ?_⟩
    rw [show b + ((n + 1 : Nat) : Int) = b + (n : Int) + 1 by omega]
    cases c : S (b + (n : Int) + 1)
    · rw [c] at e
      simp at e
      exact ⟨by omega, rfl⟩
    · rw [c] at e
      simp at e
      omega
theorem pt_inj' {S : Int → Bool} {b c : Int} {d e : Nat} (hc : S c = true) (p : Pt S b d) (q : Pt S c e) (h : b + (d : Int) = c + (e : Int)) : ¬ b < c := fun l => by
  obtain ⟨n, hn⟩ : ∃ n : Nat, c = b + (n : Int) + 1 := ⟨(c - b - 1).toNat, by omega⟩
  have hd : d = n + 1 + e := by omega
  have a := p.2 n (by obtain ⟨m, e1, _⟩ := pt_end q; omega)
  have w : wk S b (n + 1) = wk S b n + 1 := by
    show wk S b n + _ = _
    rw [← hn, if_pos hc]
  have z := p.1
  rw [hd, wk_add, w, show b + ((n + 1 : Nat) : Int) = c by omega, q.1] at z
  omega
theorem pt_inj {S : Int → Bool} {b c : Int} {d e : Nat} (hb : S b = true) (hc : S c = true) (p : Pt S b d) (q : Pt S c e) (h : b + (d : Int) = c + (e : Int)) : b = c := by
  have := pt_inj' hc p q h
  have := pt_inj' hb q p h.symm
  omega
end BB
end
section
/-! Pairs within pairs: depths. -/
namespace BB
set_option linter.unusedVariables false
theorem prt_pt {row : List Int} {b : Int} {d : Nat} (h : Prt row b d) : Pt (fun x => decide (x ∈ row)) b d := pt_row.mpr h
/-- a ball that lies ahead of a partner has its own partner ahead of it -/
theorem nest {row : List Int} {b c : Int} {d e : Nat} (hc : c ∈ row) (p : Prt row b d) (q : Prt row c e) (l : b < c) (l2 : c < b + (d : Int)) : c + (e : Int) < b + (d : Int) := by
  have p' := prt_pt p
  have q' := prt_pt q
  apply Int.not_le.mp
  intro z
  obtain ⟨n, hn⟩ : ∃ n : Nat, c = b + (n : Int) + 1 := ⟨(c - b - 1).toNat, by omega⟩
  have a := p'.2 n (by omega)
  have w : wk (fun x => decide (x ∈ row)) b (n + 1) = wk (fun x => decide (x ∈ row)) b n + 1 := by
    show wk _ b n + _ = _
    rw [← hn, if_pos (decide_eq_true hc)]
  obtain ⟨m, hm⟩ : ∃ m, d = n + 1 + m := ⟨d - n - 1, by omega⟩
  have z0 := p'.1
  rw [hm, wk_add, w, show b + ((n + 1 : Nat) : Int) = c by omega] at z0
  have me : m ≤ e := by omega
  rcases Nat.lt_or_ge m e with y | y
  · have := q'.2 m y; omega
  · have : m = e := by omega
    rw [this, q'.1] at z0
    omega
structure Nst (bl : List (Int × Int)) : Prop where
  up : bl.Pairwise fun x y => x.1 < y.1
  lt : ∀ q ∈ bl, q.1 < q.2
  nst : ∀ q ∈ bl, ∀ c ∈ bl, q.1 < c.1 → c.1 < q.2 → c.2 < q.2
  box : ∀ q ∈ bl, ∀ c ∈ bl, q.1 ≠ c.2
  one : ∀ q ∈ bl, ∀ c ∈ bl, q.2 = c.2 → q = c
theorem nst_of {row : List Int} {bl : List (Int × Int)} (e : bl.map (·.1) = row) (up : row.Pairwise (· < ·)) (fd : FD row bl) : Nst bl := by
  have inr : ∀ q ∈ bl, q.1 ∈ row := fun q hq => by rw [← e]; exact List.mem_map_of_mem (f := (·.1)) hq
  have at2 : ∀ q ∈ bl, q.1 + (((q.2 - q.1).toNat : Nat) : Int) = q.2 := fun q hq => by have := (fd q hq).1; omega
  have up' : bl.Pairwise fun x y => x.1 < y.1 := List.pairwise_map.mp (by rw [e]; exact up)
  have box : ∀ q ∈ bl, ∀ c ∈ bl, q.1 ≠ c.2 := fun q hq c hc z => by
    obtain ⟨_, _, _, h⟩ := pt_end (prt_pt (fd c hc).2)
    rw [at2 c hc, ← z] at h
    exact of_decide_eq_false h (inr q hq)
  refine ⟨up', fun q hq => (fd q hq).1, fun q hq c hc l1 l2 => ?_, box, fun q hq c hc z => ?_⟩
  · have := nest (inr c hc) (fd q hq).2 (fd c hc).2 l1 (by rw [at2 q hq]; exact l2)
    rwa [at2 q hq, at2 c hc] at this
  · have h1 := at2 q hq
    have h2 := at2 c hc
    have := pt_inj (decide_eq_true (inr q hq)) (decide_eq_true (inr c hc)) (prt_pt (fd q hq).2) (prt_pt (fd c hc).2) (by omega)
    exact Prod.ext this z
theorem Nst.tail {q : Int × Int} {r : List (Int × Int)} (h : Nst (q :: r)) : Nst r :=
  ⟨(List.pairwise_cons.mp h.up).2, fun x hx => h.lt x (List.mem_cons_of_mem _ hx), fun x hx y hy => h.nst x (List.mem_cons_of_mem _ hx) y (List.mem_cons_of_mem _ hy), fun x hx y hy => h.box x (List.mem_cons_of_mem _ hx) y (List.mem_cons_of_mem _ hy), fun x hx y hy => h.one x (List.mem_cons_of_mem _ hx) y (List.mem_cons_of_mem _ hy)⟩
noncomputable def mx (l : List Nat) : Nat := l.foldr max 0
theorem le_mx : ∀ {l : List Nat} {x : Nat}, x ∈ l → x ≤ mx l
  | y :: l, x, h => by
    show x ≤ max y (mx l)
    rcases List.mem_cons.mp h with z | z
    · omega
    · have := le_mx z; omega
theorem mx_mem : ∀ l : List Nat, mx l = 0 ∨ mx l ∈ l
  | [] => .inl rfl
  | y :: l => by
    show max y (mx l) = 0 ∨ max y (mx l) ∈ y :: l
    by_cases c : mx l ≤ y
    · rw [Nat.max_eq_left c]; exact .inr List.mem_cons_self
    · rw [Nat.max_eq_right (by omega)]
      rcases mx_mem l with z | z
      · exact .inl z
      · exact .inr (List.mem_cons_of_mem _ z)
/-- how deep a pair is -/
noncomputable def dep : List (Int × Int) → (Int × Int) → Nat
  | [], _ => 0
  | c :: r, q => if q = c then 1 + mx ((r.filter fun e => decide (e.2 < c.2)).map (dep r)) else dep r q
theorem dep_tail {c q : Int × Int} {r : List (Int × Int)} (h : Nst (c :: r)) (hq : q ∈ r) : dep (c :: r) q = dep r q := by
  have := (List.pairwise_cons.mp h.up).1 q hq
  exact if_neg fun z => by rw [z] at this; omega
theorem dep_head (c : Int × Int) (r : List (Int × Int)) : dep (c :: r) c = 1 + mx ((r.filter fun e => decide (e.2 < c.2)).map (dep r)) := if_pos rfl
theorem dep_pos : ∀ {bl : List (Int × Int)}, Nst bl → ∀ q ∈ bl, 1 ≤ dep bl q
  | c :: r, h, q, hq => by
    rcases List.mem_cons.mp hq with z | z
    · rw [z, dep_head]; omega
    · rw [dep_tail h z]; exact dep_pos h.tail q z
theorem dep_lt : ∀ {bl : List (Int × Int)}, Nst bl → ∀ q ∈ bl, ∀ c ∈ bl, q.1 < c.1 → c.2 < q.2 → dep bl c < dep bl q
  | a :: r, h, q, hq, c, hc, l1, l2 => by
    have hu := (List.pairwise_cons.mp h.up).1
    rcases List.mem_cons.mp hc with zc | zc
    · subst zc
      rcases List.mem_cons.mp hq with zq | zq
      · rw [zq] at l1; omega
      · have := hu q zq; omega
    · rcases List.mem_cons.mp hq with zq | zq
      · rw [zq, dep_head, dep_tail h zc]
        have hm : c ∈ r.filter fun e => decide (e.2 < a.2) := List.mem_filter.mpr ⟨zc, decide_eq_true (zq ▸ l2 : c.2 < a.2)⟩
        have := le_mx (List.mem_map_of_mem (f := dep r) hm)
        omega
      · rw [dep_tail h zc, dep_tail h zq]
        exact dep_lt h.tail q zq c zc l1 l2
theorem dep_ex : ∀ {bl : List (Int × Int)}, Nst bl → ∀ q ∈ bl, 2 ≤ dep bl q → ∃ c ∈ bl, q.1 < c.1 ∧ c.2 < q.2 ∧ dep bl c + 1 = dep bl q
  | a :: r, h, q, hq, h2 => by
    have hu := (List.pairwise_cons.mp h.up).1
    rcases List.mem_cons.mp hq with zq | zq
    · subst zq
      rw [dep_head] at h2 ⊢
      rcases mx_mem ((r.filter fun e => decide (e.2 < q.2)).map (dep r)) with z | z
      · omega
      · obtain ⟨c, hc, e⟩ := List.mem_map.mp z
        obtain ⟨c1, c2⟩ := List.mem_filter.mp hc
        exact ⟨c, List.mem_cons_of_mem _ c1, hu c c1, of_decide_eq_true c2, by rw [dep_tail h c1, e]; omega⟩
    · rw [dep_tail h zq] at h2 ⊢
      obtain ⟨c, c1, c2, c3, c4⟩ := dep_ex h.tail q zq h2
      exact ⟨c, List.mem_cons_of_mem _ c1, c2, c3, by rw [dep_tail h c1]; exact c4⟩
/-! marks: balls and boxes in one line -/
noncomputable def swp (q : Int × Int) : Int × Int := (q.2, q.1)
/-- a mark's pair -/
noncomputable def nrm (z : Int × Int) : Int × Int := if z.1 < z.2 then z else swp z
structure Mks (bl ml : List (Int × Int)) : Prop where
  up : ml.Pairwise fun x y => x.1 < y.1
  mem : ∀ z, z ∈ ml ↔ z ∈ bl ∨ swp z ∈ bl
/-- those that are left ahead of the nth time -/
noncomputable def left (bl ml : List (Int × Int)) (n : Nat) : List (Int × Int) := ml.filter fun z => decide (n ≤ dep bl (nrm z))
end BB
end
section
/-! How many pairs are how deep: what is peeled off. -/
namespace BB
set_option linter.unusedVariables false
/-! the pairs of a word -/
end BB
end
section
/-! Counts of depths are what goes out, time by time. -/
namespace BB
set_option linter.unusedVariables false
end BB
end
section
/-! Boxes of pairs are the row a step on; depths by what lies within; lengths by counts of depths; lengths of a row that is peeled. -/
namespace BB
set_option linter.unusedVariables false
theorem count_least (d : Nat) : ∀ l : List Int, (l.map fun x => if x < ((d + 1 : Nat) : Int) then x else ((d + 1 : Nat) : Int)).sum = (l.map fun x => if x < (d : Int) then x else (d : Int)).sum + ((l.filter fun x => decide (((d + 1 : Nat) : Int) ≤ x)).length : Int)
  | [] => rfl
  | x :: l => by
    have ih := count_least d l
    rw [List.map_cons, List.map_cons, List.sum_cons, List.sum_cons, ih, List.filter_cons]
    by_cases c : ((d + 1 : Nat) : Int) ≤ x
    · rw [if_neg (by omega), if_neg (by omega), if_pos (decide_eq_true c), List.length_cons]
      omega
    · rw [if_pos (show x < ((d + 1 : Nat) : Int) by omega), if_neg (show ¬ decide (((d + 1 : Nat) : Int) ≤ x) = true by rw [decide_eq_false c]; exact Bool.false_ne_true)]
      by_cases c2 : x < (d : Int)
      · rw [if_pos c2]; omega
      · rw [if_neg c2]; omega
theorem range_filter (h : Nat) (p : Nat → Bool) : ∀ n, h ≤ n → (∀ j, j < n → (p j = true ↔ j < h)) → (List.range n).filter p = List.range h := by
  intro n
  induction n with
  | zero => intro hn _; rw [show h = 0 by omega]; rfl
  | succ n ih =>
    intro hn hp
    rw [List.range_succ, List.filter_append]
    by_cases c : h ≤ n
    · rw [ih c fun j hj => hp j (by omega), List.filter_cons, if_neg (fun z => by have := (hp n (by omega)).mp z; omega), List.filter_nil, List.append_nil]
    · have e : h = n + 1 := by omega
      subst e
      rw [List.filter_eq_self.mpr fun j hj => (hp j (by have := List.mem_range.mp hj; omega)).mpr (by have := List.mem_range.mp hj; omega), List.filter_cons, if_pos ((hp n (by omega)).mpr (by omega)), List.filter_nil, ← List.range_succ]
theorem lens_tail {c : Int} {cs : List Int} (fa : (c :: cs).Pairwise (· ≥ ·)) (h0 : ∀ x ∈ c :: cs, 0 ≤ x) : ((lens (c :: cs)).filter fun l => decide (1 < l)).map (fun l => l - 1) = lens cs := by
  obtain ⟨f1, f2⟩ := List.pairwise_cons.mp fa
  unfold lens
  have e1 : ∀ j : Nat, j < c.toNat → (((c :: cs).filter fun x => decide ((j : Int) < x)).length : Int) = 1 + ((cs.filter fun x => decide ((j : Int) < x)).length : Int) := fun j hj => by
    rw [List.filter_cons, if_pos (decide_eq_true (by omega)), List.length_cons]
    omega
  show (((List.range c.toNat).map fun (j : Nat) => (((c :: cs).filter fun x => decide ((j : Int) < x)).length : Int)).filter _).map _ = _
  rw [List.map_congr_left (g := fun (j : Nat) => 1 + ((cs.filter fun x => decide ((j : Int) < x)).length : Int)) fun j hj => e1 j (List.mem_range.mp hj), List.filter_map, List.map_map]
  have hd : (cs.headD 0).toNat ≤ c.toNat := by
    cases cs with
    | nil => exact Nat.zero_le _
    | cons d r =>
      have := f1 d List.mem_cons_self
      show d.toNat ≤ c.toNat
      omega
  rw [range_filter (cs.headD 0).toNat _ c.toNat hd fun j hj => ?_]
  · exact List.map_congr_left fun j _ => by show 1 + _ - 1 = _; omega
  · show decide (1 < 1 + ((cs.filter fun x => decide ((j : Int) < x)).length : Int)) = true ↔ _
    rw [decide_eq_true_iff]
    cases cs with
    | nil => simp
    | cons d r =>
      show _ ↔ j < d.toNat
      have g1 := (List.pairwise_cons.mp f2).1
      constructor
      · intro h
        have ne : 0 < ((d :: r).filter fun x => decide ((j : Int) < x)).length := by omega
        obtain ⟨x, hx⟩ := List.exists_mem_of_length_pos ne
        obtain ⟨x1, x2⟩ := List.mem_filter.mp hx
        have x2 := of_decide_eq_true x2
        rcases List.mem_cons.mp x1 with z | z
        · omega
        · have := g1 x z; omega
      · intro h
        have : 0 < ((d :: r).filter fun x => decide ((j : Int) < x)).length := List.length_pos_iff.mpr fun z => by
          have : d ∈ (d :: r).filter fun x => decide ((j : Int) < x) := List.mem_filter.mpr ⟨List.mem_cons_self, decide_eq_true (by omega)⟩
          rw [z] at this
          cases this
        omega
theorem outs_more : ∀ (n m : Nat) (r : List Int), r.length ≤ n → r.length ≤ m → outs n r = outs m r
  | 0, m, r, h, _ => by
    have e : r = [] := List.length_eq_zero_iff.mp (by omega)
    subst e
    cases m <;> rfl
  | n + 1, 0, r, _, h => by
    have e : r = [] := List.length_eq_zero_iff.mp (by omega)
    subst e
    rfl
  | n + 1, m + 1, r, h1, h2 => by
    unfold outs
    by_cases e : r = []
    · rw [if_pos e, if_pos e]
    · have := peel_lt e
      rw [if_neg e, if_neg e, outs_more n m (peel r) (by omega) (by omega)]
theorem lens_peel {row : List Int} (up : row.Pairwise (· < ·)) : ((lens (outs row.length row)).filter fun l => decide (1 < l)).map (fun l => l - 1) = lens (outs (peel row).length (peel row)) := by
  obtain ⟨a, b⟩ := outs_fall row.length row (ipl_fall up)
  cases row with
  | nil => rfl
  | cons p r =>
    have lt := peel_lt (show p :: r ≠ [] by simp)
    have eo : outs (p :: r).length (p :: r) = (((p :: r).length : Int) - ((peel (p :: r)).length : Int)) :: outs (peel (p :: r)).length (peel (p :: r)) := by
      show (if p :: r = [] then _ else _) = _
      rw [if_neg (by simp)]
      congr 1
      have lt' : (peel (p :: r)).length < r.length + 1 := lt
      exact outs_more r.length (peel (p :: r)).length (peel (p :: r)) (by omega) (Nat.le_refl _)
    rw [eo] at a b ⊢
    exact lens_tail a fun x hx => (b x hx).1
end BB
end
section
/-! Runs of balls and of empty boxes by turns, and the waves that are taken out of them. -/
namespace BB
set_option linter.unusedVariables false
noncomputable def par : Bool → Nat → Bool
  | b, 0 => b
  | b, n + 1 => par (!b) n
theorem par_succ : ∀ (b : Bool) (n : Nat), par b (n + 1) = !(par b n)
  | _, 0 => rfl
  | b, n + 1 => par_succ (!b) n
theorem par_even : ∀ (n : Nat) (b : Bool), par b n = if n % 2 = 0 then b else !b
  | 0, b => rfl
  | n + 1, b => by
    rw [par_succ, par_even n b]
    by_cases c : n % 2 = 0
    · rw [if_pos c, if_neg (by omega)]
    · rw [if_neg c, if_pos (by omega), Bool.not_not]
/-- the first run that is no longer than the next -/
noncomputable def fs : List (List Int) → Nat
  | s :: g :: r => if s.length ≤ g.length then 0 else 1 + fs (g :: r)
  | _ => 0
noncomputable def wv (R : List (List Int)) (a : Nat) : List Int × List Int :=
  if a % 2 = 0 then (R.getD a [], (R.getD (a + 1) []).take (R.getD a []).length) else ((R.getD (a + 1) []).take (R.getD a []).length, R.getD a [])
noncomputable def wo (R : List (List Int)) (a : Nat) : List (List Int) :=
  if a = 0 then R.drop 2 else R.take (a - 1) ++ [R.getD (a - 1) [] ++ (R.getD (a + 1) []).drop (R.getD a []).length] ++ R.drop (a + 2)
noncomputable def wvs : Nat → List (List Int) → List (List Int × List Int)
  | 0, _ => []
  | n + 1, R => if R = [] then [] else wv R (fs R) :: wvs n (wo R (fs R))
theorem getD_pre {α : Type} (d : α) (pre : List α) (x : α) (r : List α) : (pre ++ x :: r).getD pre.length d = x := by
  rw [List.getD_eq_getElem?_getD, List.getElem?_append_right (Nat.le_refl _), Nat.sub_self]
  rfl
theorem getD_pre1 {α : Type} (d : α) (pre : List α) (x y : α) (r : List α) : (pre ++ x :: y :: r).getD (pre.length + 1) d = y := by
  rw [List.getD_eq_getElem?_getD, List.getElem?_append_right (by omega), Nat.add_sub_cancel_left]
  rfl
theorem wo_app (p : List (List Int)) (h s g : List Int) (post : List (List Int)) : wo ((p ++ [h]) ++ s :: g :: post) (p ++ [h]).length = p ++ [h ++ g.drop s.length] ++ post := by
  have l : (p ++ [h]).length = p.length + 1 := by rw [List.length_append]; rfl
  unfold wo
  rw [if_neg (by omega), getD_pre, getD_pre1, l, Nat.add_sub_cancel]
  have e : (p ++ [h]) ++ s :: g :: post = p ++ h :: s :: g :: post := by rw [List.append_assoc]; rfl
  rw [e, getD_pre, List.take_left' rfl]
  congr 1
  rw [show p.length + 1 + 2 = p.length + 3 by omega, ← List.drop_drop, List.drop_left' rfl]
  rfl
theorem fs_ok : ∀ R : List (List Int), 2 ≤ R.length → (R.getD (R.length - 2) []).length ≤ (R.getD (R.length - 1) []).length → ∃ pre s g post, R = pre ++ s :: g :: post ∧ fs R = pre.length ∧ s.length ≤ g.length
  | s :: g :: r, _, h => by
    unfold fs
    by_cases c : s.length ≤ g.length
    · exact ⟨[], s, g, r, rfl, by rw [if_pos c]; rfl, c⟩
    · rw [if_neg c]
      cases r with
      | nil => exact absurd h c
      | cons x r =>
        obtain ⟨pre, s', g', post, e1, e2, e3⟩ := fs_ok (g :: x :: r) (by simp) h
        exact ⟨s :: pre, s', g', post, by rw [e1]; rfl, by rw [e2, List.length_cons]; omega, e3⟩
theorem fs_lt : ∀ (R : List (List Int)) (j : Nat), j < fs R → (R.getD (j + 1) []).length < (R.getD j []).length
  | [], j, h => absurd h (Nat.not_lt_zero _)
  | [s], j, h => absurd h (Nat.not_lt_zero _)
  | s :: g :: r, j, h => by
    unfold fs at h
    by_cases c : s.length ≤ g.length
    · rw [if_pos c] at h; omega
    · rw [if_neg c] at h
      cases j with
      | zero => exact Nat.lt_of_not_le c
      | succ j => exact fs_lt (g :: r) j (by omega)
/-- how many balls there are -/
noncomputable def bls : Bool → List (List Int) → Nat
  | _, [] => 0
  | b, x :: R => (if b = true then x.length else 0) + bls (!b) R
theorem bls_app : ∀ (A B : List (List Int)) (b : Bool), bls b (A ++ B) = bls b A + bls (par b A.length) B
  | [], B, b => by show bls b B = 0 + bls b B; omega
  | x :: A, B, b => by
    show _ + bls (!b) (A ++ B) = _ + bls (!b) A + bls (par (!b) A.length) B
    rw [bls_app A B (!b)]
    omega
theorem bls_ge : ∀ (R : List (List Int)) (b : Bool) (j : Nat), par b j = true → (R.getD j []).length ≤ bls b R
  | [], b, j, _ => Nat.zero_le _
  | x :: R, b, 0, h => by
    have h' : b = true := h
    show x.length ≤ (if b = true then x.length else 0) + _
    rw [if_pos h']
    omega
  | x :: R, b, j + 1, h => by
    have := bls_ge R (!b) j h
    show (R.getD j []).length ≤ _ + bls (!b) R
    omega
structure Gd (N : Nat) (R : List (List Int)) : Prop where
  ne : ∀ r ∈ R, r ≠ []
  ev : R.length % 2 = 0
  nb : bls true R ≤ N
  en : R ≠ [] → N + 1 ≤ (R.getD (R.length - 1) []).length
theorem Gd.at {N : Nat} {R : List (List Int)} (d : Gd N R) (h : R ≠ []) : ∃ pre s g post, R = pre ++ s :: g :: post ∧ fs R = pre.length ∧ s.length ≤ g.length := by
  have l0 : 0 < R.length := List.length_pos_iff.mpr h
  have ev := d.ev
  have b := bls_ge R true (R.length - 2) (by rw [par_even, if_pos (by omega)])
  have := d.en h
  have := d.nb
  exact fs_ok R (by omega) (by omega)
theorem last_app {α : Type} (d : α) (A : List α) {B : List α} (h : B ≠ []) : (A ++ B).getD ((A ++ B).length - 1) d = B.getD (B.length - 1) d := by
  have : 0 < B.length := List.length_pos_iff.mpr h
  rw [List.getD_eq_getElem?_getD, List.getD_eq_getElem?_getD, List.length_append, List.getElem?_append_right (by omega)]
  congr 2
  omega
/-- the size of a wave is no more than the balls -/
theorem Gd.size {N : Nat} {pre post : List (List Int)} {s g : List Int} (d : Gd N (pre ++ s :: g :: post)) (l : s.length ≤ g.length) : s.length ≤ N ∧ (par true pre.length = false → g.length ≤ N) := by
  have nb := d.nb
  rw [bls_app] at nb
  have e : bls (par true pre.length) (s :: g :: post) = (if par true pre.length = true then s.length else 0) + ((if (!par true pre.length) = true then g.length else 0) + bls (!!par true pre.length) post) := rfl
  rw [e] at nb
  cases c : par true pre.length with
  | true =>
    rw [c, if_pos rfl] at nb
    exact ⟨by omega, fun z => by cases z⟩
  | false =>
    rw [c, if_neg Bool.false_ne_true, if_pos (by rfl)] at nb
    exact ⟨by omega, fun _ => by omega⟩
theorem Gd.wo {N : Nat} {pre post : List (List Int)} {s g : List Int} (d : Gd N (pre ++ s :: g :: post)) (l : s.length ≤ g.length) : Gd (N - s.length) (BB.wo (pre ++ s :: g :: post) pre.length) := by
  obtain ⟨sz, _⟩ := d.size l
  have nb := d.nb
  have ev := d.ev
  have s1 : 1 ≤ s.length := List.length_pos_iff.mpr (d.ne s (by simp))
  have dl : (g.drop s.length).length = g.length - s.length := List.length_drop ..
  rcases List.eq_nil_or_concat pre with e | ⟨p, h, e⟩
  · subst e
    show Gd _ post
    refine ⟨fun r hr => d.ne r (by simp [hr]), ?_, ?_, fun h => ?_⟩
    · simp only [List.nil_append, List.length_cons] at ev
      omega
    · have : bls true (s :: g :: post) = s.length + (0 + bls true post) := rfl
      rw [List.nil_append, this] at nb
      omega
    · have := d.en (by simp)
      rw [List.nil_append, show s :: g :: post = [s, g] ++ post from rfl, last_app [] [s, g] h] at this
      omega
  · rw [List.concat_eq_append] at e
    subst e
    rw [wo_app]
    have hh : h ≠ [] := d.ne h (by simp)
    have h1 : 1 ≤ h.length := List.length_pos_iff.mpr hh
    refine ⟨fun r hr => ?_, ?_, ?_, fun _ => ?_⟩
    · rw [List.append_assoc, List.mem_append, List.mem_append, List.mem_singleton] at hr
      rcases hr with z | z | z
      · exact d.ne r (by simp [z])
      · subst z
        intro w
        exact hh (List.append_eq_nil_iff.mp w).1
      · exact d.ne r (by simp [z])
    · simp only [List.length_append, List.length_cons, List.length_nil] at ev ⊢
      omega
    · rw [List.append_assoc, bls_app] at nb
      rw [List.append_assoc, bls_app]
      generalize par true p.length = b at nb ⊢
      have e1 : bls b ([h] ++ s :: g :: post) = (if b = true then h.length else 0) + ((if (!b) = true then s.length else 0) + ((if (!!b) = true then g.length else 0) + bls (!!!b) post)) := rfl
      have e2 : bls b ([h ++ g.drop s.length] ++ post) = (if b = true then (h ++ g.drop s.length).length else 0) + bls (!b) post := rfl
      rw [e1] at nb
      rw [e2, List.length_append, dl]
      cases b with
      | true => simp only [Bool.not_true, Bool.not_false, if_true, Bool.false_eq_true, if_false] at nb ⊢; omega
      | false => simp only [Bool.not_true, Bool.not_false, if_true, Bool.false_eq_true, if_false] at nb ⊢; omega
    · have en := d.en (by simp)
      by_cases c : post = []
      · subst c
        rw [List.append_nil, last_app [] p (by simp)]
        rw [last_app [] (p ++ [h]) (by simp)] at en
        show _ ≤ (h ++ g.drop s.length).length
        have en' : N + 1 ≤ g.length := en
        rw [List.length_append, dl]
        omega
      · rw [last_app [] _ c]
        rw [show (p ++ [h]) ++ s :: g :: post = ((p ++ [h]) ++ [s, g]) ++ post by simp, last_app [] _ c] at en
        omega
end BB
end
section
/-! Two lists of runs that agree as far as it matters have the same waves; runs out of boxes. -/
namespace BB
set_option linter.unusedVariables false
noncomputable def Ag1 (m : Nat) (b : Bool) (x y : List Int) : Prop := if b = true then x = y else x.take m = y.take m
noncomputable def Ag (m : Nat) : Bool → List (List Int) → List (List Int) → Prop
  | _, [], [] => True
  | b, x :: R, y :: R' => Ag1 m b x y ∧ Ag m (!b) R R'
  | _, _, _ => False
theorem ag1_t {m : Nat} {x y : List Int} : Ag1 m true x y ↔ x = y := by unfold Ag1; rw [if_pos rfl]
theorem ag1_f {m : Nat} {x y : List Int} : Ag1 m false x y ↔ x.take m = y.take m := by unfold Ag1; rw [if_neg Bool.false_ne_true]
theorem take_less {m k : Nat} {x y : List Int} (h : x.take m = y.take m) (l : k ≤ m) : x.take k = y.take k := by
  have := congrArg (List.take k) h
  rw [List.take_take, List.take_take, Nat.min_eq_left l] at this
  exact this
theorem take_len {m : Nat} {x y : List Int} (h : x.take m = y.take m) : min m x.length = min m y.length := by
  have := congrArg List.length h
  rw [List.length_take, List.length_take] at this
  exact this
theorem take_all {m : Nat} {x y : List Int} (h : x.take m = y.take m) (l : x.length < m) : x = y := by
  have := take_len h
  rw [List.take_of_length_le (by omega), List.take_of_length_le (by omega)] at h
  exact h
theorem take_app {m : Nat} {x y x' y' : List Int} (h : x.take m = x'.take m) (k : y.take m = y'.take m) : (x ++ y).take m = (x' ++ y').take m := by
  by_cases l : x.length < m
  · have := take_all h l
    subst this
    rw [List.take_append, List.take_append, take_less k (by omega)]
  · have := take_len h
    rw [List.take_append, List.take_append, h, show m - x.length = 0 by omega, show m - x'.length = 0 by omega, List.take_zero, List.take_zero]
theorem take_drop' {m k : Nat} {x y : List Int} (h : x.take m = y.take m) : (x.drop k).take (m - k) = (y.drop k).take (m - k) := by
  have := congrArg (List.drop k) h
  rw [List.drop_take, List.drop_take] at this
  exact this
theorem ag_mono {m m' : Nat} (l : m' ≤ m) : ∀ (R R' : List (List Int)) (b : Bool), Ag m b R R' → Ag m' b R R'
  | [], [], _, _ => trivial
  | x :: R, y :: R', b, h => ⟨by
      cases b with
      | true => exact ag1_t.mpr (ag1_t.mp h.1)
      | false => exact ag1_f.mpr (take_less (ag1_f.mp h.1) l), ag_mono l R R' (!b) h.2⟩
  | [], _ :: _, _, h => h.elim
  | _ :: _, [], _, h => h.elim
theorem ag_app {m : Nat} : ∀ (A : List (List Int)) {X Y : List (List Int)} {b : Bool}, Ag m b (A ++ X) Y → ∃ A' X', Y = A' ++ X' ∧ A'.length = A.length ∧ Ag m b A A' ∧ Ag m (par b A.length) X X'
  | [], X, Y, b, h => ⟨[], Y, rfl, rfl, trivial, h⟩
  | x :: A, X, [], b, h => h.elim
  | x :: A, X, y :: Y, b, h => by
    obtain ⟨A', X', e, l, h1, h2⟩ := ag_app A h.2
    exact ⟨y :: A', X', by rw [e]; rfl, by rw [List.length_cons, List.length_cons, l], ⟨h.1, h1⟩, h2⟩
theorem ag_join {m : Nat} : ∀ (A A' : List (List Int)) {X X' : List (List Int)} {b : Bool}, Ag m b A A' → Ag m (par b A.length) X X' → Ag m b (A ++ X) (A' ++ X')
  | [], [], X, X', b, _, h => h
  | x :: A, y :: A', X, X', b, h, k => ⟨h.1, ag_join A A' h.2 k⟩
  | [], _ :: _, _, _, _, h, _ => h.elim
  | _ :: _, [], _, _, _, h, _ => h.elim
theorem ag_fs {m : Nat} : ∀ (R R' : List (List Int)) (b : Bool), Ag m b R R' → bls b R < m → fs R = fs R'
  | [], [], _, _, _ => rfl
  | [x], [y], _, _, _ => rfl
  | s :: g :: R, s' :: g' :: R', b, h, l => by
    have l1 : bls (!b) (g :: R) < m := by
      have : bls b (s :: g :: R) = _ + bls (!b) (g :: R) := rfl
      omega
    have ih := ag_fs (g :: R) (g' :: R') (!b) h.2 l1
    have c : s.length ≤ g.length ↔ s'.length ≤ g'.length := by
      cases b with
      | true =>
        have e1 := ag1_t.mp h.1
        have e2 := take_len (ag1_f.mp h.2.1)
        subst e1
        have : bls true (s :: g :: R) = s.length + bls false (g :: R) := rfl
        omega
      | false =>
        have e1 := take_len (ag1_f.mp h.1)
        have e2 := ag1_t.mp h.2.1
        subst e2
        have : bls false (s :: g :: R) = 0 + (g.length + bls false R) := rfl
        omega
    unfold fs
    by_cases z : s.length ≤ g.length
    · rw [if_pos z, if_pos (c.mp z)]
    · rw [if_neg z, if_neg (fun w => z (c.mpr w)), ih]
  | [], _ :: _, _, h, _ => h.elim
  | _ :: _, [], _, h, _ => h.elim
  | [x], _ :: _ :: _, _, h, _ => h.2.elim
  | _ :: _ :: _, [x], _, h, _ => h.2.elim
theorem wvs_ag : ∀ (n N : Nat) (R R' : List (List Int)), Gd N R → Gd N R' → Ag (N + 1) true R R' → wvs n R = wvs n R'
  | 0, _, _, _, _, _, _ => rfl
  | n + 1, N, R, R', d, d', h => by
    unfold wvs
    by_cases e : R = []
    · subst e
      cases R' with
      | nil => rfl
      | cons _ _ => exact h.elim
    have e' : R' ≠ [] := fun z => by
      subst z
      cases R with
      | nil => exact e rfl
      | cons _ _ => exact h
    rw [if_neg e, if_neg e']
    have ef : fs R = fs R' := ag_fs R R' true h (Nat.lt_succ_of_le d.nb)
    obtain ⟨pre, s, g, post, rfl, e2, l⟩ := d.at e
    obtain ⟨pre', s', g', post', rfl, e2', l'⟩ := d'.at e'
    have lp : pre.length = pre'.length := by omega
    obtain ⟨A', X', x1, x2, x3, x4⟩ := ag_app pre h
    have x5 : ∃ X2, X' = s' :: g' :: X2 ∧ A' = pre' ∧ X2 = post' := by
      obtain ⟨h1, h2⟩ := List.append_inj x1 (by omega)
      exact ⟨post', h2.symm, h1.symm, rfl⟩
    obtain ⟨X2, rfl, rfl, rfl⟩ := x5
    obtain ⟨a1, a2, a3⟩ := x4
    obtain ⟨sz, gz⟩ := d.size l
    obtain ⟨sz', gz'⟩ := d'.size l'
    -- the two runs
    have ss : s = s' ∧ g.take s.length = g'.take s.length ∧ Ag1 (N + 1 - s.length) (!par true pre.length) (g.drop s.length) (g'.drop s.length) := by
      cases c : par true pre.length with
      | true =>
        rw [c] at a1 a2
        have a2' := ag1_f.mp a2
        exact ⟨ag1_t.mp a1, take_less a2' (by omega), ag1_f.mpr (take_drop' a2')⟩
      | false =>
        rw [c] at a1 a2
        have a2' := ag1_t.mp a2
        subst a2'
        exact ⟨take_all (ag1_f.mp a1) (by omega), rfl, ag1_t.mpr rfl⟩
    obtain ⟨rfl, tk, dr⟩ := ss
    have ew : wv (pre ++ s :: g :: post) (fs (pre ++ s :: g :: post)) = wv (A' ++ s :: g' :: X2) (fs (A' ++ s :: g' :: X2)) := by
      rw [e2, e2', ← x2]
      unfold wv
      rw [getD_pre, getD_pre1, x2, getD_pre, getD_pre1, tk]
    rw [ew]
    congr 1
    have w1 := d.wo l
    have w2 := d'.wo l'
    rw [e2, e2']
    refine wvs_ag n (N - s.length) _ _ w1 w2 ?_
    have le : N - s.length + 1 ≤ N + 1 := by omega
    have me : N - s.length + 1 = N + 1 - s.length := by omega
    rcases List.eq_nil_or_concat pre with z | ⟨p, hh, z⟩
    · subst z
      have z' : A' = [] := List.length_eq_zero_iff.mp x2
      subst z'
      exact ag_mono le _ _ _ a3
    · rw [List.concat_eq_append] at z
      subst z
      obtain ⟨B', Y', y1, y2, y3, y4⟩ := ag_app p x3
      cases Y' with
      | nil => exact y4.elim
      | cons k Y' =>
        cases Y' with
        | cons _ _ => exact y4.2.elim
        | nil =>
          subst y1
          rw [wo_app, wo_app, List.append_assoc, List.append_assoc]
          refine ag_join p B' (ag_mono le _ _ _ y3) ⟨?_, ?_⟩
          · have pp : par true (p ++ [hh]).length = !par true p.length := by rw [List.length_append]; exact par_succ true p.length
            rw [pp, Bool.not_not] at dr
            have y5 := y4.1
            cases c : par true p.length with
            | true =>
              rw [c] at dr y5
              rw [ag1_t.mp y5, ag1_t.mp dr]
              exact ag1_t.mpr rfl
            | false =>
              rw [c] at dr y5
              refine ag1_f.mpr (take_app (take_less (ag1_f.mp y5) le) ?_)
              rw [me]
              exact ag1_f.mp dr
          · have pp : par true (p ++ [hh]).length = !par true p.length := by rw [List.length_append]; exact par_succ true p.length
            rw [pp, Bool.not_not] at a3
            exact ag_mono le _ _ _ a3
/-- runs as boxes -/
noncomputable def fl : Bool → List (List Int) → List (Int × Bool)
  | _, [] => []
  | b, r :: R => (r.map fun p => (p, b)) ++ fl (!b) R
theorem fl_fst : ∀ (R : List (List Int)) (b : Bool), (fl b R).map (·.1) = R.flatten
  | [], _ => rfl
  | r :: R, b => by
    show ((r.map fun p => (p, b)) ++ fl (!b) R).map (·.1) = r ++ R.flatten
    rw [List.map_append, fl_fst R (!b), List.map_map]
    congr 1
    exact (List.map_congr_left fun _ _ => rfl).trans (List.map_id r)
end BB
end
section
/-! The runs of a row, as the blocks tell them and as the boxes tell them. -/
namespace BB
set_option linter.unusedVariables false
noncomputable def rg (a : Int) (n : Nat) : List Int := (List.range n).map fun (i : Nat) => a + (i : Int)
theorem rg_len (a : Int) (n : Nat) : (rg a n).length = n := by unfold rg; rw [List.length_map, List.length_range]
theorem rg_succ (a : Int) (n : Nat) : rg a (n + 1) = a :: rg (a + 1) n := by
  unfold rg
  rw [List.range_succ_eq_map, List.map_cons, List.map_map]
  congr 1
  · omega
  · exact List.map_congr_left fun i _ => by show a + ((i + 1 : Nat) : Int) = a + 1 + (i : Int); omega
theorem rg_take (a : Int) (n m : Nat) : (rg a n).take m = rg a (min m n) := by
  unfold rg
  rw [← List.map_take, List.take_range]
theorem rg_mem {a x : Int} {n : Nat} (h : x ∈ rg a n) : a ≤ x ∧ x < a + (n : Int) := by
  obtain ⟨i, hi, rfl⟩ := List.mem_map.mp h
  have := List.mem_range.mp hi
  omega
/-- runs by the row, no empty run longer than c -/
noncomputable def lr (c : Nat) : List Int → List (List Int)
  | [] => []
  | [p] => [[p], rg (p + 1) c]
  | p :: q :: r => if q = p + 1 then (match lr c (q :: r) with
      | s :: R => (p :: s) :: R
      | [] => []) else [p] :: rg (p + 1) (min c (q - p - 1).toNat) :: lr c (q :: r)
/-- runs by the blocks -/
noncomputable def pr (c : Nat) : List (Int × Int) → List (List Int)
  | [] => []
  | [(f, m)] => [rg f m.toNat, rg (f + m) c]
  | (f, m) :: (f', m') :: r => rg f m.toNat :: rg (f + m) (min c (f' - f - m).toNat) :: pr c ((f', m') :: r)
theorem pr_head (c : Nat) (f m : Int) (r : List (Int × Int)) : ∃ R, pr c ((f, m) :: r) = rg f m.toNat :: R ∧ ∀ f0 m0 : Int, f = f0 + 1 → m0 = m + 1 → 0 ≤ m → pr c ((f0, m0) :: r) = (f0 :: rg f m.toNat) :: R := by
  cases r with
  | nil =>
    refine ⟨_, rfl, fun f0 m0 e1 e2 h => ?_⟩
    show [rg f0 m0.toNat, rg (f0 + m0) c] = _
    subst e1 e2
    rw [show (m + 1).toNat = m.toNat + 1 by omega, rg_succ, show f0 + (m + 1) = f0 + 1 + m by omega]
  | cons b r =>
    obtain ⟨f', m'⟩ := b
    refine ⟨_, rfl, fun f0 m0 e1 e2 h => ?_⟩
    show rg f0 m0.toNat :: rg (f0 + m0) (min c (f' - f0 - m0).toNat) :: _ = _
    subst e1 e2
    rw [show (m + 1).toNat = m.toNat + 1 by omega, rg_succ, show f0 + (m + 1) = f0 + 1 + m by omega, show f' - f0 - (m + 1) = f' - (f0 + 1) - m by omega]
theorem pr_blk (c : Nat) : ∀ row : List Int, pr c (blk row) = lr c row
  | [] => rfl
  | [p] => by
    show [rg p (1 : Int).toNat, rg (p + 1) c] = [[p], rg (p + 1) c]
    rw [show (1 : Int).toNat = 0 + 1 from rfl, rg_succ]
    rfl
  | p :: q :: r => by
    have ih := pr_blk c (q :: r)
    obtain ⟨n, t, e⟩ := blk_head (p := q) (r := r)
    have n1 : 1 ≤ n := ((blk_all (q :: r)).1 (q, n) (by rw [e]; exact List.mem_cons_self)).2.1
    rw [e] at ih
    have eb : blk (p :: q :: r) = if q = p + 1 then (p, n + 1) :: t else (p, 1) :: (q, n) :: t := by
      conv => lhs; unfold blk
      rw [e]
    obtain ⟨R, h1, h2⟩ := pr_head c q n t
    rw [eb]
    unfold lr
    by_cases z : q = p + 1
    · rw [if_pos z, if_pos z, h2 p (n + 1) z rfl (by omega), ← ih, h1]
    · rw [if_neg z, if_neg z, ← ih]
      show rg p (1 : Int).toNat :: rg (p + 1) (min c (q - p - 1).toNat) :: _ = _
      rw [show (1 : Int).toNat = 0 + 1 from rfl, rg_succ]
      rfl
theorem lr_head (c : Nat) (p : Int) (r : List Int) : ∃ s g R, lr c (p :: r) = s :: g :: R ∧ s ≠ [] := by
  induction r generalizing p with
  | nil => exact ⟨_, _, _, rfl, by simp⟩
  | cons q r ih =>
    obtain ⟨s, g, R, e, _⟩ := ih q
    unfold lr
    by_cases z : q = p + 1
    · rw [if_pos z, e]
      exact ⟨_, _, _, rfl, by simp⟩
    · rw [if_neg z]
      exact ⟨_, _, _, rfl, by simp⟩
theorem lr_in {c : Nat} {p q : Int} {r : List Int} (z : q = p + 1) : ∃ s g R, lr c (q :: r) = s :: g :: R ∧ lr c (p :: q :: r) = (p :: s) :: g :: R := by
  obtain ⟨s, g, R, e, _⟩ := lr_head c q r
  refine ⟨s, g, R, e, ?_⟩
  conv => lhs; unfold lr
  rw [if_pos z, e]
theorem lr_out {c : Nat} {p q : Int} {r : List Int} (z : q ≠ p + 1) : lr c (p :: q :: r) = [p] :: rg (p + 1) (min c (q - p - 1).toNat) :: lr c (q :: r) := by
  conv => lhs; unfold lr
  rw [if_neg z]
theorem lr_gd {c N : Nat} (hc : N + 1 ≤ c) : ∀ {row : List Int}, row.Pairwise (· < ·) → row.length ≤ N → (∀ r ∈ lr c row, r ≠ []) ∧ (lr c row).length % 2 = 0 ∧ bls true (lr c row) = row.length ∧ (row ≠ [] → N + 1 ≤ ((lr c row).getD ((lr c row).length - 1) []).length)
  | [], _, _ => ⟨(fun r h => by cases h), rfl, rfl, fun h => absurd rfl h⟩
  | [p], _, _ => by
    refine ⟨fun r h => ?_, by simp [lr], by simp [lr, bls], fun _ => ?_⟩
    · rcases List.mem_cons.mp h with z | z
      · rw [z]; simp
      · rw [List.mem_singleton.mp z]
        exact fun w => by have := congrArg List.length w; rw [rg_len] at this; simp at this; omega
    · show N + 1 ≤ (rg (p + 1) c).length
      rw [rg_len]
      exact hc
  | p :: q :: r, up, l => by
    obtain ⟨u1, u2⟩ := List.pairwise_cons.mp up
    have pq := u1 q List.mem_cons_self
    obtain ⟨i1, i2, i3, i4⟩ := lr_gd hc u2 (by simp only [List.length_cons] at l ⊢; omega)
    by_cases z : q = p + 1
    · obtain ⟨s, g, R, e1, e2⟩ := lr_in (c := c) (r := r) z
      rw [e1] at i1 i2 i3 i4
      rw [e2]
      refine ⟨fun x hx => ?_, i2, ?_, fun _ => ?_⟩
      · rcases List.mem_cons.mp hx with w | w
        · rw [w]; simp
        · exact i1 x (List.mem_cons_of_mem _ w)
      · have a : bls true (s :: g :: R) = s.length + bls false (g :: R) := rfl
        have b : bls true ((p :: s) :: g :: R) = (s.length + 1) + bls false (g :: R) := rfl
        rw [b]
        rw [a] at i3
        simp only [List.length_cons] at i3 ⊢
        omega
      · have := i4 (by simp)
        rw [show s :: g :: R = [s] ++ g :: R from rfl, last_app [] [s] (by simp)] at this
        rw [show (p :: s) :: g :: R = [p :: s] ++ g :: R from rfl, last_app [] [p :: s] (by simp)]
        exact this
    · rw [lr_out z]
      have ne : lr c (q :: r) ≠ [] := by obtain ⟨s, g, R, e, _⟩ := lr_head c q r; rw [e]; simp
      refine ⟨fun x hx => ?_, ?_, ?_, fun _ => ?_⟩
      · rcases List.mem_cons.mp hx with w | w
        · rw [w]; simp
        · rcases List.mem_cons.mp w with v | v
          · rw [v]
            exact fun w => by have := congrArg List.length w; rw [rg_len] at this; simp only [List.length_nil] at this; omega
          · exact i1 x v
      · simp only [List.length_cons]; omega
      · show 1 + (0 + bls true (lr c (q :: r))) = _
        rw [i3]
        simp only [List.length_cons]
        omega
      · rw [show [p] :: rg (p + 1) (min c (q - p - 1).toNat) :: lr c (q :: r) = [[p], rg (p + 1) (min c (q - p - 1).toNat)] ++ lr c (q :: r) from rfl, last_app [] _ ne]
        exact i4 (by simp)
theorem lr_good {c : Nat} {row : List Int} (hc : row.length + 1 ≤ c) (up : row.Pairwise (· < ·)) : Gd row.length (lr c row) := by
  obtain ⟨h1, h2, h3, h4⟩ := lr_gd hc up (Nat.le_refl _)
  refine ⟨h1, h2, by omega, fun h => h4 fun z => h ?_⟩
  rw [z]
  rfl
theorem lr_ag {c d m : Nat} (hc : m ≤ c) (hd : m ≤ d) : ∀ row : List Int, Ag m true (lr c row) (lr d row)
  | [] => trivial
  | [p] => ⟨ag1_t.mpr rfl, ag1_f.mpr (by rw [rg_take, rg_take, Nat.min_eq_left hc, Nat.min_eq_left hd]), trivial⟩
  | p :: q :: r => by
    have ih := lr_ag hc hd (q :: r)
    by_cases z : q = p + 1
    · obtain ⟨s, g, R, e1, e2⟩ := lr_in (c := c) (r := r) z
      obtain ⟨s', g', R', e1', e2'⟩ := lr_in (c := d) (r := r) z
      rw [e1, e1'] at ih
      rw [e2, e2']
      exact ⟨ag1_t.mpr (by rw [ag1_t.mp ih.1]), ih.2⟩
    · rw [lr_out z, lr_out z]
      exact ⟨ag1_t.mpr rfl, ag1_f.mpr (by rw [rg_take, rg_take]; congr 1; omega), ih⟩
/-- the boxes of a row -/
noncomputable def lbx : List Int → List (Int × Bool)
  | [] => []
  | [p] => (p, true) :: (rg (p + 1) 25).map fun x => (x, false)
  | p :: q :: r => (p, true) :: ((rg (p + 1) (min 25 (q - p - 1).toNat)).map fun x => (x, false)) ++ lbx (q :: r)
theorem lbx_is : ∀ row : List Int, lbx row = fl true (lr 25 row)
  | [] => rfl
  | [p] => by show _ = (p, true) :: (((rg (p + 1) 25).map fun x => (x, false)) ++ []); rw [List.append_nil]; rfl
  | p :: q :: r => by
    have ih := lbx_is (q :: r)
    by_cases z : q = p + 1
    · obtain ⟨s, g, R, e1, e2⟩ := lr_in (c := 25) (r := r) z
      rw [e1] at ih
      rw [e2]
      show (p, true) :: ((rg (p + 1) (min 25 (q - p - 1).toNat)).map fun x => (x, false)) ++ lbx (q :: r) = (p, true) :: (s.map fun x => (x, true)) ++ fl false (g :: R)
      rw [ih, show (q - p - 1).toNat = 0 by omega, show min 25 0 = 0 from rfl]
      rfl
    · rw [lr_out z]
      show (p, true) :: ((rg (p + 1) (min 25 (q - p - 1).toNat)).map fun x => (x, false)) ++ lbx (q :: r) = (p, true) :: (((rg (p + 1) (min 25 (q - p - 1).toNat)).map fun x => (x, false)) ++ fl true (lr 25 (q :: r)))
      rw [ih]
      simp
theorem lbx_up : ∀ {row : List Int}, row.Pairwise (· < ·) → ((lbx row).map (·.1)).Pairwise (· < ·) ∧ ∀ p r, row = p :: r → ∀ x ∈ (lbx row).map (·.1), p ≤ x
  | [], _ => ⟨.nil, fun p r h => by cases h⟩
  | [p], _ => by
    have e : (lbx [p]).map (·.1) = p :: rg (p + 1) 25 := by
      show p :: ((rg (p + 1) 25).map fun x => (x, false)).map (·.1) = _
      rw [List.map_map]
      exact congrArg (p :: ·) ((List.map_congr_left fun _ _ => rfl).trans (List.map_id _))
    rw [e]
    refine ⟨List.pairwise_cons.mpr ⟨fun x hx => by have := rg_mem hx; omega, ?_⟩, fun p' r h x hx => ?_⟩
    · unfold rg
      exact List.pairwise_map.mpr (List.pairwise_lt_range.imp fun h => by omega)
    · cases h
      rcases List.mem_cons.mp hx with z | z
      · omega
      · have := rg_mem z; omega
  | p :: q :: r, up => by
    obtain ⟨u1, u2⟩ := List.pairwise_cons.mp up
    have pq := u1 q List.mem_cons_self
    obtain ⟨i1, i2⟩ := lbx_up u2
    have i2 := i2 q r rfl
    have e : (lbx (p :: q :: r)).map (·.1) = p :: (rg (p + 1) (min 25 (q - p - 1).toNat) ++ (lbx (q :: r)).map (·.1)) := by
      show ((p, true) :: ((rg (p + 1) (min 25 (q - p - 1).toNat)).map fun x => (x, false)) ++ lbx (q :: r)).map (·.1) = _
      rw [List.map_append, List.map_cons, List.map_map]
      have mm : (rg (p + 1) (min 25 (q - p - 1).toNat)).map ((fun x => x.fst) ∘ fun x => (x, false)) = rg (p + 1) (min 25 (q - p - 1).toNat) := (List.map_congr_left fun _ _ => rfl).trans (List.map_id _)
      rw [mm]
      rfl
    rw [e]
    have g1 : ∀ x ∈ rg (p + 1) (min 25 (q - p - 1).toNat), p < x ∧ x < q := fun x hx => by have := rg_mem hx; omega
    refine ⟨List.pairwise_cons.mpr ⟨fun x hx => ?_, List.pairwise_append.mpr ⟨?_, i1, fun x hx y hy => ?_⟩⟩, fun p' r' h x hx => ?_⟩
    · rcases List.mem_append.mp hx with z | z
      · exact (g1 x z).1
      · have := i2 x z; omega
    · unfold rg
      exact List.pairwise_map.mpr (List.pairwise_lt_range.imp fun h => by omega)
    · have := g1 x hx
      have := i2 y hy
      omega
    · cases h
      rcases List.mem_cons.mp hx with z | z
      · omega
      · rcases List.mem_append.mp z with w | w
        · have := g1 x w; omega
        · have := i2 x w; omega
/-- what is told of a row and what is due are the same -/
theorem waves_due {row : List Int} (up : row.Pairwise (· < ·)) (l : row.length ≤ 12) (n : Nat) : wvs n (pr (row.length + 1) (blk row)) = wvs n (lr 25 row) := by
  rw [pr_blk]
  exact wvs_ag n row.length _ _ (lr_good (Nat.le_refl _) up) (lr_good (by omega) up) (lr_ag (Nat.le_refl _) (by omega) row)
end BB
end
section
/-! Waves, one after another. -/
namespace BB
set_option linter.unusedVariables false
theorem wo_len {pre post : List (List Int)} {s g : List Int} : (wo (pre ++ s :: g :: post) pre.length).length + 2 = (pre ++ s :: g :: post).length ∧ (wo (pre ++ s :: g :: post) pre.length).flatten.length ≤ (pre ++ s :: g :: post).flatten.length := by
  rcases List.eq_nil_or_concat pre with e | ⟨p, h, e⟩
  · subst e
    show post.length + 2 = (s :: g :: post).length ∧ post.flatten.length ≤ (s :: g :: post).flatten.length
    rw [List.flatten_cons, List.flatten_cons, List.length_append, List.length_append]
    exact ⟨rfl, by omega⟩
  · rw [List.concat_eq_append] at e
    subst e
    rw [wo_app]
    constructor
    · simp only [List.length_append, List.length_cons, List.length_nil]
      omega
    · have : (g.drop s.length).length ≤ g.length := by rw [List.length_drop]; omega
      simp only [List.flatten_append, List.flatten_cons, List.flatten_nil, List.length_append, List.length_nil]
      omega
theorem wvs_nil : ∀ n, wvs n [] = []
  | 0 => rfl
  | n + 1 => rfl
theorem mem_flat {R : List (List Int)} {n : Nat} (h : R.flatten.length ≤ n) : ∀ r ∈ R, r.length ≤ n := fun r hr => by
  obtain ⟨A, B, rfl⟩ := List.append_of_mem hr
  rw [List.flatten_append, List.flatten_cons, List.length_append, List.length_append] at h
  omega
theorem lr_flat {c : Nat} : ∀ row : List Int, (lr c row).flatten.length ≤ row.length * (c + 1) ∧ (lr c row).length ≤ 2 * row.length
  | [] => ⟨Nat.zero_le _, Nat.zero_le _⟩
  | [p] => by
    show (([p] : List Int) ++ (rg (p + 1) c ++ [])).length ≤ 1 * (c + 1) ∧ 2 ≤ 2
    rw [List.append_nil, List.length_append, rg_len]
    simp
    omega
  | p :: q :: r => by
    obtain ⟨i1, i2⟩ := lr_flat (c := c) (q :: r)
    have em : (p :: q :: r).length * (c + 1) = (q :: r).length * (c + 1) + (c + 1) := by rw [List.length_cons, Nat.succ_mul]
    by_cases z : q = p + 1
    · obtain ⟨s, g, R, e1, e2⟩ := lr_in (c := c) (r := r) z
      rw [e1] at i1 i2
      rw [e2, em]
      simp only [List.flatten_cons, List.length_append, List.length_cons] at i1 i2 ⊢
      omega
    · rw [lr_out z, em]
      simp only [List.flatten_cons, List.length_append, List.length_cons, rg_len, List.length_nil] at i1 i2 ⊢
      omega
end BB
end
section
/-! The waves of a row: as long as its lengths, of its balls, of empty boxes. -/
namespace BB
set_option linter.unusedVariables false
/-- what a carrier of size s that has L balls takes of runs -/
noncomputable def rt (s : Nat) : Bool → Nat → List (List Int) → Nat
  | _, _, [] => 0
  | true, L, x :: R => min x.length (s - L) + rt s false (min (L + x.length) s) R
  | false, L, x :: R => rt s true (L - x.length) R
theorem rt_t (s L : Nat) (x : List Int) (R : List (List Int)) : rt s true L (x :: R) = min x.length (s - L) + rt s false (min (L + x.length) s) R := rfl
theorem rt_f (s L : Nat) (x : List Int) (R : List (List Int)) : rt s false L (x :: R) = rt s true (L - x.length) R := rfl
theorem lv_a (L s r a b : Nat) : min (min (L + (r + a)) s - r + (r + b)) s = min (L + (r + a + b)) s := by
  rcases Nat.le_total (L + (r + a)) s with c | c
  · rw [Nat.min_eq_left c, show L + (r + a) - r = L + a from by rw [Nat.add_left_comm, Nat.add_sub_cancel_left], show L + a + (r + b) = L + (r + a + b) by ac_rfl]
  · rw [Nat.min_eq_right c, Nat.min_eq_right (Nat.le_trans c (Nat.add_le_add_left (Nat.le_add_right ..) _)), ← Nat.add_assoc]
    exact Nat.min_eq_right (Nat.le_trans (Nat.le_add_of_sub_le (Nat.le_refl _)) (Nat.le_add_right ..))
theorem lv_s (S r b : Nat) : min (r + b) (S - (S - r)) = min r S := by
  rcases Nat.le_total r S with c | c
  · rw [Nat.sub_sub_self c, Nat.min_eq_right (Nat.le_add_right ..), Nat.min_eq_left c]
  · rw [Nat.sub_eq_zero_of_le c, Nat.sub_zero, Nat.min_eq_right c]
    exact Nat.min_eq_right (Nat.le_trans c (Nat.le_add_right ..))
theorem lv_b (L e r a b : Nat) : min (r + a) e + min (r + b) (L + e - (min (L + (r + a)) (L + e) - r)) = min r (L + e) + min (r + a + b) e := by
  rcases Nat.le_total (r + a) e with c | c
  · obtain ⟨f, rfl⟩ := Nat.exists_eq_add_of_le c
    rw [Nat.min_eq_left c, Nat.min_eq_left (Nat.add_le_add_left c _), show L + (r + a) - r = L + a from by rw [Nat.add_left_comm, Nat.add_sub_cancel_left], show L + (r + a + f) = (L + a) + (r + f) by ac_rfl, Nat.add_sub_cancel_left,
      Nat.add_min_add_left, Nat.add_min_add_left, Nat.min_eq_left (a := r) (Nat.le_trans (Nat.le_add_right ..) (Nat.le_add_left ..))]
    exact Nat.add_left_comm ..
  · rw [Nat.min_eq_right c, Nat.min_eq_right (Nat.add_le_add_left c _), lv_s, Nat.min_eq_right (Nat.le_trans c (Nat.le_add_right ..)), Nat.add_comm]
theorem lv_c (L e r a b : Nat) : min (L - (r + a) + r) (L + e) - (r + b) = L - (r + a + b) := by
  rcases Nat.le_total L (r + a) with c | c
  · rw [Nat.sub_eq_zero_of_le c, Nat.sub_eq_zero_of_le (Nat.le_trans c (Nat.le_add_right ..)), Nat.zero_add]
    exact Nat.sub_eq_zero_of_le (Nat.le_trans (Nat.min_le_left ..) (Nat.le_add_right ..))
  · obtain ⟨f, rfl⟩ := Nat.exists_eq_add_of_le c
    rw [Nat.add_sub_cancel_left, Nat.add_sub_add_left, Nat.min_eq_left (by rw [show r + a + f + e = f + r + (a + e) by ac_rfl]; exact Nat.le_add_right ..), Nat.add_comm f r, Nat.add_sub_add_left]
theorem lv_d (L e r a : Nat) : min r (L + e - (L - (r + a))) = min r (L + e) := by
  rcases Nat.le_total L (r + a) with c | c
  · rw [Nat.sub_eq_zero_of_le c, Nat.sub_zero]
  · obtain ⟨f, rfl⟩ := Nat.exists_eq_add_of_le c
    rw [Nat.add_sub_cancel_left, show r + a + f + e = f + (r + (a + e)) by ac_rfl, Nat.add_sub_cancel_left, Nat.min_eq_left (Nat.le_add_right ..), Nat.min_eq_left (Nat.le_trans (Nat.le_add_right ..) (Nat.le_add_left ..))]
theorem rt_wo (s : Nat) (h r g : List Int) (post : List (List Int)) (l1 : r.length ≤ h.length) (l2 : r.length ≤ g.length) : ∀ (p : List (List Int)) (b : Bool) (L : Nat), L ≤ s →
    rt s b L (p ++ h :: r :: g :: post) = min r.length s + rt s b L (p ++ (h ++ g.drop r.length) :: post)
  | [], true, L, hL => by
    obtain ⟨a, ea⟩ := Nat.exists_eq_add_of_le l1
    obtain ⟨b, eb⟩ := Nat.exists_eq_add_of_le l2
    obtain ⟨e, rfl⟩ := Nat.exists_eq_add_of_le hL
    have dl : (h ++ g.drop r.length).length = r.length + a + b := by rw [List.length_append, List.length_drop, ea, eb, Nat.add_sub_cancel_left]
    rw [List.nil_append, List.nil_append, rt_t, rt_f, rt_t, rt_t, dl, ea, eb, lv_a, ← Nat.add_assoc, Nat.add_sub_cancel_left, lv_b, Nat.add_assoc]
  | [], false, L, hL => by
    obtain ⟨a, ea⟩ := Nat.exists_eq_add_of_le l1
    obtain ⟨b, eb⟩ := Nat.exists_eq_add_of_le l2
    obtain ⟨e, rfl⟩ := Nat.exists_eq_add_of_le hL
    have dl : (h ++ g.drop r.length).length = r.length + a + b := by rw [List.length_append, List.length_drop, ea, eb, Nat.add_sub_cancel_left]
    rw [List.nil_append, List.nil_append, rt_f, rt_t, rt_f, rt_f, dl, ea, eb, lv_c, lv_d]
  | x :: p, true, L, hL => by
    rw [List.cons_append, List.cons_append, rt_t, rt_t, rt_wo s h r g post l1 l2 p false _ (Nat.min_le_right ..), Nat.add_left_comm]
  | x :: p, false, L, hL => by
    rw [List.cons_append, List.cons_append, rt_f, rt_f, rt_wo s h r g post l1 l2 p true _ (Nat.le_trans (Nat.sub_le ..) hL)]
theorem wv_len {pre post : List (List Int)} {s g : List Int} (l : s.length ≤ g.length) : (wv (pre ++ s :: g :: post) pre.length).1.length = s.length ∧ (wv (pre ++ s :: g :: post) pre.length).2.length = s.length := by
  unfold wv
  rw [getD_pre, getD_pre1]
  split
  · exact ⟨rfl, by rw [List.length_take]; omega⟩
  · exact ⟨by rw [List.length_take]; show min _ _ = _; omega, rfl⟩
theorem rt_wave (s : Nat) {N : Nat} {pre post : List (List Int)} {r g : List Int} (d : Gd N (pre ++ r :: g :: post)) (ef : fs (pre ++ r :: g :: post) = pre.length) (l : r.length ≤ g.length) :
    rt s true 0 (pre ++ r :: g :: post) = min r.length s + rt s true 0 (wo (pre ++ r :: g :: post) pre.length) := by
  rcases List.eq_nil_or_concat pre with e | ⟨p, h, e⟩
  · subst e
    rw [List.nil_append]
    show _ = _ + rt s true 0 post
    rw [rt_t, rt_f, show min (0 + r.length) s - g.length = 0 by omega]
    omega
  · rw [List.concat_eq_append] at e
    subst e
    have lt := fs_lt _ p.length (by rw [ef, List.length_append, List.length_singleton]; omega)
    rw [show (p ++ [h]) ++ r :: g :: post = p ++ h :: r :: g :: post by simp, getD_pre, getD_pre1] at lt
    rw [wo_app, show (p ++ [h]) ++ r :: g :: post = p ++ h :: r :: g :: post by simp, rt_wo s h r g post (by omega) l p true 0 (Nat.zero_le _)]
    simp
theorem wvs_cons {n : Nat} {pre post : List (List Int)} {r g : List Int} (ef : fs (pre ++ r :: g :: post) = pre.length) : wvs (n + 1) (pre ++ r :: g :: post) = wv (pre ++ r :: g :: post) pre.length :: wvs n (wo (pre ++ r :: g :: post) pre.length) := by
  show (if pre ++ r :: g :: post = [] then _ else _) = _
  rw [if_neg (by simp), ef]
theorem gd_zero {R : List (List Int)} (d : Gd 0 R) : R = [] := by
  cases R with
  | nil => rfl
  | cons x R =>
    have n := d.nb
    have := d.ne x List.mem_cons_self
    have : 0 < x.length := List.length_pos_iff.mpr this
    have e : bls true (x :: R) = x.length + bls false R := rfl
    omega
theorem wvs_taken (s : Nat) : ∀ (n N : Nat) (R : List (List Int)), Gd N R → N ≤ n → rt s true 0 R = ((wvs n R).map fun w => min w.1.length s).sum ∧ (∀ w ∈ wvs n R, w.1.length = w.2.length ∧ 1 ≤ w.1.length) ∧ (wvs n R).length ≤ n
  | 0, N, R, d, h => by
    have e : N = 0 := by omega
    subst e
    rw [gd_zero d]
    exact ⟨rfl, (fun w hw => by cases hw), Nat.zero_le _⟩
  | n + 1, N, R, d, h => by
    by_cases e : R = []
    · subst e
      exact ⟨rfl, (fun w hw => by rw [wvs_nil] at hw; cases hw), by rw [wvs_nil]; exact Nat.zero_le _⟩
    obtain ⟨pre, r, g, post, e1, e2, e3⟩ := d.at e
    subst e1
    have r1 : 1 ≤ r.length := List.length_pos_iff.mpr (d.ne r (by simp))
    obtain ⟨w1, w2⟩ := wv_len (pre := pre) (post := post) e3
    obtain ⟨i1, i2, i3⟩ := wvs_taken s n (N - r.length) _ (d.wo e3) (by omega)
    rw [wvs_cons e2, rt_wave s d e2 e3, i1, List.map_cons, List.sum_cons, w1, List.length_cons]
    refine ⟨rfl, fun w hw => ?_, by omega⟩
    rcases List.mem_cons.mp hw with z | z
    · rw [z, w1, w2]
      exact ⟨rfl, r1⟩
    · exact i2 w z
theorem sub_min (m c t : Nat) (h : m ≤ c) : m - min c t = m - t := by
  rcases Nat.le_total c t with z | z
  · rw [Nat.min_eq_left z, Nat.sub_eq_zero_of_le h, Nat.sub_eq_zero_of_le (Nat.le_trans h z)]
  · rw [Nat.min_eq_right z]
theorem self0 (q : Int) : (q - q).toNat = 0 := by rw [Int.sub_self]; rfl
theorem tkn_skip {s L : Nat} {box q : Int} {r : List Int} : tkn s L box (q :: r) = tkn s (L - (q - box).toNat) q (q :: r) := by
  unfold tkn
  rw [sub_min _ _ _ (Nat.le_refl _), sub_min _ _ _ (Nat.le_refl _), self0, Nat.sub_zero]
theorem tkn_here {s L : Nat} {p : Int} {r : List Int} (h : L ≤ s) : tkn s L p (p :: r) = min 1 (s - L) + tkn s (min (L + 1) s) (p + 1) r := by
  have e : tkn s L p (p :: r) = if L - min L (p - p).toNat < s then tkn s (L - min L (p - p).toNat + 1) (p + 1) r + 1 else tkn s (L - min L (p - p).toNat) (p + 1) r := rfl
  rw [e, sub_min _ _ _ (Nat.le_refl _), self0, Nat.sub_zero]
  split
  · rename_i c
    rw [Nat.min_eq_left (a := L + 1) c, Nat.min_eq_left (Nat.sub_pos_of_lt c), Nat.add_comm]
  · rename_i c
    have z : s = L := Nat.le_antisymm (Nat.le_of_not_lt c) h
    rw [z, Nat.sub_self, Nat.min_eq_right (Nat.zero_le _), Nat.min_eq_right (Nat.le_succ _), Nat.zero_add]
theorem min_on (a s x : Nat) : min (min a s + x) s = min (a + x) s := by
  rcases Nat.le_total a s with c | c
  · rw [Nat.min_eq_left c]
  · rw [Nat.min_eq_right c, Nat.min_eq_right (Nat.le_add_right ..), Nat.min_eq_right (Nat.le_trans c (Nat.le_add_right ..))]
theorem min_one (L s x : Nat) (h : L ≤ s) : min 1 (s - L) + min x (s - min (L + 1) s) = min (x + 1) (s - L) := by
  obtain ⟨e, rfl⟩ := Nat.exists_eq_add_of_le h
  rw [Nat.add_min_add_left, Nat.add_sub_cancel_left]
  cases e with
  | zero => rw [Nat.min_eq_right (Nat.zero_le 1), Nat.add_zero, Nat.add_zero, Nat.sub_self, Nat.min_eq_right (Nat.zero_le _), Nat.min_eq_right (Nat.zero_le _)]
  | succ e => rw [Nat.min_eq_left (Nat.succ_le_succ (Nat.zero_le e)), show L + (e + 1) - (L + 1) = e from by rw [Nat.add_sub_add_left]; rfl, Nat.add_min_add_right, Nat.add_comm]
theorem rt_lr (s c : Nat) : ∀ (r : List Int) (p : Int) (L : Nat), (p :: r).Pairwise (· < ·) → L ≤ s → L + (r.length + 1) ≤ c → rt s true L (lr c (p :: r)) = tkn s L p (p :: r)
  | [], p, L, up, h1, h2 => by
    rw [tkn_here h1]
    show min 1 (s - L) + 0 = _
    rfl
  | q :: r, p, L, up, h1, h2 => by
    obtain ⟨u1, u2⟩ := List.pairwise_cons.mp up
    rw [List.length_cons] at h2
    have h3 : min (L + 1) s + (r.length + 1) ≤ c := Nat.le_trans (Nat.add_le_add_right (Nat.min_le_left ..) _) (by rw [Nat.add_right_comm, Nat.add_assoc]; exact h2)
    have ih := rt_lr s c r q
    rw [tkn_here h1, tkn_skip]
    by_cases z : q = p + 1
    · obtain ⟨x, g, R, e1, e2⟩ := lr_in (c := c) (r := r) z
      have ih := ih (min (L + 1) s) u2 (Nat.min_le_right ..) h3
      rw [e1, rt_t] at ih
      rw [e2, rt_t, List.length_cons, z, self0, Nat.sub_zero, ← z, ← ih, min_on, show L + 1 + x.length = L + (x.length + 1) by ac_rfl, ← Nat.add_assoc (min 1 (s - L)), min_one _ _ _ h1]
    · have ih := ih (min (L + 1) s - (q - (p + 1)).toNat) u2 (Nat.le_trans (Nat.sub_le ..) (Nat.min_le_right ..)) (Nat.le_trans (Nat.add_le_add_right (Nat.sub_le ..) _) h3)
      rw [lr_out z, rt_t, rt_f, rg_len, ← ih, show ([p] : List Int).length = 1 from rfl, Int.sub_sub, sub_min _ _ _ (Nat.le_trans (Nat.le_add_right ..) h3)]
theorem taken_lr (s c : Nat) {row : List Int} (up : row.Pairwise (· < ·)) (hc : row.length ≤ c) : rt s true 0 (lr c row) = taken s row := by
  cases row with
  | nil => rfl
  | cons p r => exact rt_lr s c r p 0 up (Nat.zero_le _) (by simp only [List.length_cons] at hc; omega)
/-- two lists of numbers from 1 on that count the same, each as at most any size, are of the same numbers -/
theorem count_two (v : Int) : ∀ l : List Int, (l.count v : Int) = ((l.filter fun x => decide (v ≤ x)).length : Int) - ((l.filter fun x => decide (v + 1 ≤ x)).length : Int)
  | [] => rfl
  | x :: l => by
    have ih := count_two v l
    rw [List.count_cons, List.filter_cons, List.filter_cons]
    by_cases a : x = v
    · subst a
      have a1 : (x == x) = true := by simp
      have a2 : ¬ decide (x + 1 ≤ x) = true := by rw [decide_eq_false (by omega)]; exact Bool.false_ne_true
      rw [a1, if_pos rfl, if_pos (decide_eq_true (Int.le_refl _)), if_neg a2, List.length_cons]
      omega
    · rw [if_neg (by simpa using a)]
      by_cases b : v ≤ x
      · rw [if_pos (decide_eq_true b), if_pos (decide_eq_true (by omega)), List.length_cons, List.length_cons]
        omega
      · rw [if_neg (by rw [decide_eq_false b]; exact Bool.false_ne_true), if_neg (by rw [decide_eq_false (by omega)]; exact Bool.false_ne_true)]
        omega
noncomputable def lim (s : Nat) (l : List Int) : Int := (l.map fun x => if x < (s : Int) then x else (s : Int)).sum
theorem perm_lim {l k : List Int} (h1 : ∀ x ∈ l, 1 ≤ x) (k1 : ∀ x ∈ k, 1 ≤ x) (h : ∀ s : Nat, lim s l = lim s k) : l.Perm k := by
  refine List.perm_iff_count.mpr fun v => ?_
  have ge : ∀ d : Nat, ((l.filter fun x => decide (((d + 1 : Nat) : Int) ≤ x)).length : Int) = ((k.filter fun x => decide (((d + 1 : Nat) : Int) ≤ x)).length : Int) := fun d => by
    have a := count_least d l
    have b := count_least d k
    have e1 := h (d + 1)
    have e0 := h d
    unfold lim at e1 e0
    omega
  by_cases c : 1 ≤ v
  · obtain ⟨d, e⟩ : ∃ d : Nat, v = ((d + 1 : Nat) : Int) := ⟨(v - 1).toNat, by omega⟩
    subst e
    have a := count_two ((d + 1 : Nat) : Int) l
    have b := count_two ((d + 1 : Nat) : Int) k
    have g0 := ge d
    have g1 := ge (d + 1)
    rw [show (((d + 1 + 1 : Nat) : Int)) = ((d + 1 : Nat) : Int) + 1 by omega] at g1
    omega
  · rw [List.count_eq_zero.mpr fun z => c (h1 v z), List.count_eq_zero.mpr fun z => c (k1 v z)]
theorem filter_le {p q : Int → Bool} (h : ∀ x, p x = true → q x = true) : ∀ l : List Int, (l.filter p).length ≤ (l.filter q).length
  | [] => Nat.le_refl _
  | x :: l => by
    have ih := filter_le h l
    rw [List.filter_cons, List.filter_cons]
    by_cases a : p x = true
    · rw [if_pos a, if_pos (h x a), List.length_cons, List.length_cons]; omega
    · rw [if_neg a]
      split
      · rw [List.length_cons]; omega
      · exact ih
theorem lens_fall (cs : List Int) : (lens cs).Pairwise (· ≥ ·) := by
  unfold lens
  refine List.pairwise_map.mpr (List.pairwise_lt_range.imp fun {i j} h => ?_)
  have := filter_le (p := fun c => decide ((j : Int) < c)) (q := fun c => decide ((i : Int) < c)) (fun x hx => decide_eq_true (by have := of_decide_eq_true hx; omega)) cs
  show ((cs.filter fun c => decide ((j : Int) < c)).length : Int) ≤ ((cs.filter fun c => decide ((i : Int) < c)).length : Int)
  omega
theorem lens_one (cs : List Int) : ∀ x ∈ lens cs, 1 ≤ x := fun x hx => by
  unfold lens at hx
  obtain ⟨j, hj, rfl⟩ := List.mem_map.mp hx
  have := List.mem_range.mp hj
  cases cs with
  | nil => cases hx
  | cons c cs =>
    show (1 : Int) ≤ (((c :: cs).filter fun c => decide ((j : Int) < c)).length : Int)
    have hc : (j : Int) < c := by
      have : j < c.toNat := this
      omega
    rw [List.filter_cons, if_pos (decide_eq_true hc), List.length_cons]
    omega
theorem outs_len : ∀ (n : Nat) (r : List Int), (outs n r).length ≤ n
  | 0, r => by unfold outs; exact Nat.zero_le _
  | n + 1, r => by
    unfold outs
    split
    · exact Nat.zero_le _
    · rw [List.length_cons]
      have := outs_len n (peel r)
      omega
theorem lens_le {n : Nat} {r : List Int} : ∀ x ∈ lens (outs n r), x ≤ (n : Int) := fun x hx => by
  unfold lens at hx
  obtain ⟨j, hj, rfl⟩ := List.mem_map.mp hx
  have a := List.length_filter_le (fun c => decide ((j : Int) < c)) (outs n r)
  have b := outs_len n r
  show (((outs n r).filter fun c => decide ((j : Int) < c)).length : Int) ≤ (n : Int)
  omega
theorem lim_all {s : Nat} : ∀ {l : List Int}, (∀ x ∈ l, x ≤ (s : Int)) → lim s l = l.sum
  | [], _ => rfl
  | x :: l, h => by
    have ih := lim_all (s := s) fun y hy => h y (List.mem_cons_of_mem _ hy)
    have := h x List.mem_cons_self
    unfold lim at ih ⊢
    rw [List.map_cons, List.sum_cons, List.sum_cons, ih]
    split <;> omega
theorem lens_sum {row : List Int} (up : row.Pairwise (· < ·)) : (lens (outs row.length row)).sum = (row.length : Int) := by
  have t := taken_lens row.length up
  rw [show ((lens (outs row.length row)).map fun l => if l < (row.length : Int) then l else (row.length : Int)).sum = lim row.length (lens (outs row.length row)) from rfl, lim_all lens_le] at t
  rw [← t]
  rw [taken_great (Nat.le_refl _)]
theorem down_one {l ns : List Int} (fa : l.Pairwise (· ≥ ·)) (p : ns.Perm l) (so : ns.Pairwise (· ≤ ·)) : ns.reverse = l :=
  ((List.reverse_perm ns).trans p).eq_of_pairwise (fun a b _ _ h1 h2 => by omega) (List.pairwise_reverse.mpr so) fa
/-- the waves are as long as the lengths -/
theorem waves_long {row : List Int} (up : row.Pairwise (· < ·)) (l : row.length ≤ 12) :
    ((wvs 12 (lr 25 row)).map fun w => (w.1.length : Int)).Perm (lens (outs row.length row)) := by
  have gd := lr_good (c := 25) (by omega) up
  refine perm_lim (fun x hx => ?_) (lens_one _) fun s => ?_
  · obtain ⟨w, hw, rfl⟩ := List.mem_map.mp hx
    have := ((wvs_taken 0 12 _ _ gd l).2.1 w hw).2
    omega
  · have a := (wvs_taken s 12 _ _ gd l).1
    rw [taken_lr s 25 up (by omega)] at a
    have b := taken_lens s up
    show _ = ((lens (outs row.length row)).map fun l => if l < (s : Int) then l else (s : Int)).sum
    rw [← b, a]
    unfold lim
    rw [List.map_map]
    have : ∀ W : List (List Int × List Int), (W.map ((fun x : Int => if x < (s : Int) then x else (s : Int)) ∘ fun w => (w.1.length : Int))).sum = (((W.map fun w => min w.1.length s).sum : Nat) : Int) := by
      intro W
      induction W with
      | nil => rfl
      | cons w W ih =>
        rw [List.map_cons, List.sum_cons, List.map_cons, List.sum_cons, ih]
        show (if (w.1.length : Int) < (s : Int) then (w.1.length : Int) else (s : Int)) + _ = _
        split <;> omega
    exact this _
/-- of runs by turns those of one kind -/
noncomputable def sel (c : Bool) : Bool → List (List Int) → List Int
  | _, [] => []
  | b, x :: R => (if b = c then x else []) ++ sel c (!b) R
theorem sel_app (c : Bool) : ∀ (A B : List (List Int)) (b : Bool), sel c b (A ++ B) = sel c b A ++ sel c (par b A.length) B
  | [], B, b => rfl
  | x :: A, B, b => by
    show _ ++ sel c (!b) (A ++ B) = (_ ++ sel c (!b) A) ++ sel c (par (!b) A.length) B
    rw [sel_app c A B (!b), List.append_assoc]
theorem sel_cons (c b : Bool) (x : List Int) (R : List (List Int)) : sel c b (x :: R) = (if b = c then x else []) ++ sel c (!b) R := rfl
/-- the balls (c) of a wave, its boxes -/
noncomputable def prt (c : Bool) (w : List Int × List Int) : List Int := if c = true then w.1 else w.2
theorem sel_wo (c : Bool) {pre post : List (List Int)} {s g : List Int} (l : s.length ≤ g.length) : ∃ rest, (sel c true (pre ++ s :: g :: post)).Perm (prt c (wv (pre ++ s :: g :: post) pre.length) ++ (sel c true (wo (pre ++ s :: g :: post) pre.length) ++ rest)) ∧ (c = true → rest = []) := by
  have gs : g = g.take s.length ++ g.drop s.length := (List.take_append_drop ..).symm
  rcases List.eq_nil_or_concat pre with e | ⟨p, h, e⟩
  · subst e
    rw [List.nil_append]
    show ∃ rest, (sel c true (s :: g :: post)).Perm (prt c (s, g.take s.length) ++ (sel c true post ++ rest)) ∧ _
    rw [sel_cons, sel_cons]
    cases c with
    | true => exact ⟨[], by rw [if_pos rfl, if_neg (by decide), List.append_nil]; exact .refl _, fun _ => rfl⟩
    | false =>
      refine ⟨g.drop s.length, ?_, fun z => by cases z⟩
      rw [if_neg (by decide), if_pos (by rfl), List.nil_append]
      show (g ++ sel false true post).Perm (g.take s.length ++ (sel false true post ++ g.drop s.length))
      conv => lhs; rw [gs]
      rw [List.append_assoc]
      exact List.Perm.append_left _ List.perm_append_comm
  · rw [List.concat_eq_append] at e
    subst e
    refine ⟨[], ?_, fun _ => rfl⟩
    rw [List.append_nil, wo_app]
    have ew : prt c (wv ((p ++ [h]) ++ s :: g :: post) (p ++ [h]).length) = if par true p.length = c then g.take s.length else s := by
      unfold wv
      rw [getD_pre, getD_pre1, List.length_append, List.length_singleton]
      have pe := par_even p.length true
      unfold prt
      by_cases z : p.length % 2 = 0
      · rw [if_pos z] at pe
        have z2 : ¬ (p.length + 1) % 2 = 0 := by omega
        rw [pe, if_neg z2]
        cases c <;> rfl
      · rw [if_neg z] at pe
        have z2 : (p.length + 1) % 2 = 0 := by omega
        rw [pe, if_pos z2]
        cases c <;> rfl
    rw [ew, show (p ++ [h]) ++ s :: g :: post = p ++ (h :: s :: g :: post) by simp, show p ++ [h ++ g.drop s.length] ++ post = p ++ ((h ++ g.drop s.length) :: post) by simp, sel_app, sel_app]
    generalize par true p.length = b
    rw [sel_cons, sel_cons, sel_cons, sel_cons, Bool.not_not]
    by_cases z : b = c
    · subst z
      simp only [if_true]
      rw [if_neg (show ¬ (!b) = b by cases b <;> decide), List.nil_append]
      conv => lhs; rw [gs]
      generalize g.take s.length = t
      generalize g.drop s.length = d
      generalize sel b true p = A
      generalize sel b (!b) post = S
      have e1 : A ++ (h ++ (t ++ d ++ S)) = (A ++ h) ++ (t ++ (d ++ S)) := by simp
      have e2 : t ++ (A ++ (h ++ d ++ S)) = t ++ ((A ++ h) ++ (d ++ S)) := by simp
      rw [e1, e2]
      exact List.perm_append_comm_assoc ..
    · simp only [z, if_false]
      rw [if_pos (show (!b) = c by cases b <;> cases c <;> first | rfl | exact absurd rfl z), List.nil_append, List.nil_append]
      exact List.perm_append_comm_assoc ..
theorem sel_wvs (c : Bool) : ∀ (n N : Nat) (R : List (List Int)), Gd N R → N ≤ n → ∃ rest, (sel c true R).Perm (((wvs n R).map (prt c)).flatten ++ rest) ∧ (c = true → rest = [])
  | 0, N, R, d, h => by
    have e : N = 0 := by omega
    subst e
    rw [gd_zero d]
    exact ⟨[], .refl _, fun _ => rfl⟩
  | n + 1, N, R, d, h => by
    by_cases e : R = []
    · subst e
      rw [wvs_nil]
      exact ⟨[], .refl _, fun _ => rfl⟩
    obtain ⟨pre, r, g, post, e1, e2, e3⟩ := d.at e
    subst e1
    have r1 : 1 ≤ r.length := List.length_pos_iff.mpr (d.ne r (by simp))
    obtain ⟨x1, p1, q1⟩ := sel_wo c (pre := pre) (post := post) e3
    obtain ⟨x2, p2, q2⟩ := sel_wvs c n (N - r.length) _ (d.wo e3) (by omega)
    refine ⟨x2 ++ x1, p1.trans ?_, fun z => by rw [q1 z, q2 z]; rfl⟩
    rw [wvs_cons e2, List.map_cons, List.flatten_cons, List.append_assoc, ← List.append_assoc _ x2 x1]
    exact (List.Perm.append_right _ p2).append_left _
theorem sel_row (c : Nat) : ∀ row : List Int, sel true true (lr c row) = row
  | [] => rfl
  | [p] => rfl
  | p :: q :: r => by
    have ih := sel_row c (q :: r)
    by_cases z : q = p + 1
    · obtain ⟨s, g, R, e1, e2⟩ := lr_in (c := c) (r := r) z
      rw [e1, sel_cons, if_pos rfl] at ih
      rw [e2, sel_cons, if_pos rfl, List.cons_append, ih]
    · rw [lr_out z, sel_cons, sel_cons, if_pos rfl, if_neg (by decide), Bool.not_not, ih]
      rfl
theorem sel_both : ∀ (R : List (List Int)) (b : Bool), R.flatten.Perm (sel true b R ++ sel false b R)
  | [], _ => .refl _
  | x :: R, b => by
    have ih := sel_both R (!b)
    rw [List.flatten_cons, sel_cons, sel_cons]
    cases b with
    | true =>
      rw [if_pos rfl, if_neg (by decide), List.nil_append, List.append_assoc]
      exact ih.append_left _
    | false =>
      rw [if_neg (by decide), if_pos rfl, List.nil_append]
      exact (ih.append_left x).trans (List.perm_append_comm_assoc ..)
/-- the balls of the waves are the row's; their boxes are empty ones, none twice -/
theorem waves_of {row : List Int} (up : row.Pairwise (· < ·)) (l : row.length ≤ 12) :
    ((wvs 12 (lr 25 row)).map (·.1)).flatten.Perm row ∧ ((wvs 12 (lr 25 row)).map (·.2)).flatten.Nodup ∧ (∀ x ∈ ((wvs 12 (lr 25 row)).map (·.2)).flatten, x ∉ row) ∧ ((wvs 12 (lr 25 row)).map (·.2)).flatten.length = row.length := by
  have gd := lr_good (c := 25) (by omega) up
  obtain ⟨r1, p1, q1⟩ := sel_wvs true 12 _ _ gd l
  obtain ⟨r2, p2, _⟩ := sel_wvs false 12 _ _ gd l
  rw [q1 rfl, List.append_nil, sel_row] at p1
  have nd : (lr 25 row).flatten.Nodup := by
    rw [← fl_fst _ true, ← lbx_is]
    exact (lbx_up up).1.imp fun {a b} h => Int.ne_of_lt h
  have nd2 := (sel_both (lr 25 row) true).nodup_iff.mp nd
  rw [sel_row, List.nodup_append] at nd2
  obtain ⟨_, n2, n3⟩ := nd2
  have n4 := p2.nodup_iff.mp n2
  rw [List.nodup_append] at n4
  refine ⟨p1.symm, n4.1, fun x hx hr => n3 x hr x (p2.mem_iff.mpr (List.mem_append_left _ hx)) rfl, ?_⟩
  have e := (wvs_taken 0 12 _ _ gd l).2.1
  have : ∀ W : List (List Int × List Int), (∀ w ∈ W, w.1.length = w.2.length ∧ 1 ≤ w.1.length) → (W.map (·.2)).flatten.length = (W.map (·.1)).flatten.length := by
    intro W
    induction W with
    | nil => intro _; rfl
    | cons w W ih =>
      intro h
      rw [List.map_cons, List.map_cons, List.flatten_cons, List.flatten_cons, List.length_append, List.length_append, ih fun x hx => h x (List.mem_cons_of_mem _ hx), (h w List.mem_cons_self).1]
  rw [this _ e]
  exact p1.length_eq.symm
end BB
end
section
/-! As many pairs lie next to one another as there are lengths. -/
namespace BB
set_option linter.unusedVariables false
theorem dep_one {row : List Int} {bl : List (Int × Int)} (e : bl.map (·.1) = row) (up : row.Pairwise (· < ·)) (fd : FD row bl) {q : Int × Int} (hq : q ∈ bl) : dep bl q = 1 ↔ q.1 + 1 ∉ row := by
  have ns := nst_of e up fd
  constructor
  · intro h hin
    rw [← e] at hin
    obtain ⟨c, hc, ec⟩ := List.mem_map.mp hin
    have ec : c.1 = q.1 + 1 := ec
    have b := ns.box c hc q hq
    have l := ns.lt q hq
    have d := dep_lt ns q hq c hc (by omega) (ns.nst q hq c hc (by omega) (by omega))
    have := dep_pos ns c hc
    omega
  · intro h
    have p := dep_pos ns q hq
    rcases Nat.lt_or_ge 1 (dep bl q) with z | z
    · obtain ⟨c, hc, c1, c2, _⟩ := dep_ex ns q hq z
      have lc := ns.lt c hc
      have w := (fd q hq).2.2 1 (by omega)
      have e1 : wlk row q.1 1 = 0 := by
        show wlk row q.1 0 + (if q.1 + ((0 : Nat) : Int) + 1 ∈ row then 1 else -1) = 0
        rw [if_neg (by rw [show q.1 + ((0 : Nat) : Int) + 1 = q.1 + 1 by omega]; exact h)]
        rfl
      rw [e1] at w
      exact absurd w (by decide)
    · omega
theorem count_deep1 {row : List Int} {bl : List (Int × Int)} (e : bl.map (·.1) = row) (up : row.Pairwise (· < ·)) (fd : FD row bl) : (((bl.map fun q => (dep bl q : Int)).count 1 : Nat) : Int) = ((lens (outs row.length row)).length : Int) := by
  have c1 : (bl.map fun q => (dep bl q : Int)).count 1 = (bare row).length := by
    have g : ∀ l : List (Int × Int), (∀ q ∈ l, q ∈ bl) → (l.map fun q => (dep bl q : Int)).count 1 = ((l.map (·.1)).filter fun p => decide (p + 1 ∉ row)).length := by
      intro l
      induction l with
      | nil => intro _; rfl
      | cons q l ih =>
        intro h
        have i := ih fun x hx => h x (List.mem_cons_of_mem _ hx)
        have d := dep_one e up fd (h q List.mem_cons_self)
        rw [List.map_cons, List.map_cons, List.count_cons, List.filter_cons, i]
        by_cases c : q.1 + 1 ∉ row
        · have z : ((dep bl q : Int) == 1) = true := by rw [d.mpr c]; rfl
          rw [z, if_pos rfl, if_pos (decide_eq_true c), List.length_cons]
        · have z : ((dep bl q : Int) == 1) = false := beq_eq_false_iff_ne.mpr fun y => c (d.mp (by omega))
          rw [z, if_neg Bool.false_ne_true, if_neg (by rw [decide_eq_false c]; exact Bool.false_ne_true)]
          rfl
    rw [g bl fun _ h => h, e]
    rfl
  have c2 : (peel row).length + (bare row).length = row.length := by
    rw [peel_is, List.length_map]
    unfold bare
    have : ∀ l : List Int, (l.filter fun y => decide (y + 1 ∈ row)).length + (l.filter fun p => decide (p + 1 ∉ row)).length = l.length := by
      intro l
      induction l with
      | nil => rfl
      | cons x l ih =>
        rw [List.filter_cons, List.filter_cons]
        by_cases c : x + 1 ∈ row
        · rw [if_pos (decide_eq_true c), if_neg (by rw [decide_eq_false fun z => z c]; exact Bool.false_ne_true), List.length_cons, List.length_cons]
          omega
        · rw [if_neg (by rw [decide_eq_false c]; exact Bool.false_ne_true), if_pos (decide_eq_true c), List.length_cons, List.length_cons]
          omega
    exact this row
  rw [c1]
  unfold lens
  rw [List.length_map, List.length_range]
  by_cases z : row = []
  · subst z; rfl
  · have : (outs row.length row).headD 0 = (row.length : Int) - ((peel row).length : Int) := by
      have h := outs_head row.length row
      cases o : outs row.length row with
      | nil =>
        obtain ⟨k, ek⟩ : ∃ k, row.length = k + 1 := ⟨row.length - 1, by have := List.length_pos_iff.mpr z; omega⟩
        rw [ek] at o
        unfold outs at o
        rw [if_neg z] at o
        cases o
      | cons c cs =>
        rw [o] at h
        exact (h c rfl).1
    rw [this]
    omega
end BB
end
section
namespace K34
open PySem PySem.Spec PyProof.Rows L2
set_option maxHeartbeats 4000000
set_option Elab.async false
set_option linter.unusedVariables false
noncomputable def top (i : Nat) : Stmt := PySem.Challenge.pw_boxballs_k34_whole_lengths.main.body.getD i (.Pass ⟨0, 0, 0, 0⟩)
noncomputable abbrev s_is_number : Stmt := top 4
theorem sc_is_number : FnScope ["thing", "least", "greatest"] ["thing", "least", "greatest"] (defScope s_is_number) := ⟨rfl, rfl, rfl, by decide +kernel, rfl, by decide +kernel, by decide +kernel⟩
noncomputable abbrev s_need_number : Stmt := top 5
theorem sc_need_number : FnScope ["thing", "least", "greatest"] ["thing", "least", "greatest"] (defScope s_need_number) := ⟨rfl, rfl, rfl, by decide +kernel, rfl, by decide +kernel, by decide +kernel⟩
noncomputable abbrev s_carry : Stmt := top 6
theorem sc_carry : FnScope ["row", "size", "behind", "load", "taken", "box", "place", "laid"] ["row", "size"] (defScope s_carry) := ⟨rfl, rfl, rfl, by decide +kernel, rfl, by decide +kernel, by decide +kernel⟩
noncomputable abbrev s_mirrored : Stmt := top 7
theorem sc_mirrored : FnScope ["row"] ["row"] (defScope s_mirrored) := ⟨rfl, rfl, rfl, by decide +kernel, rfl, by decide +kernel, by decide +kernel⟩
noncomputable abbrev s_carry_back : Stmt := top 8
theorem sc_carry_back : FnScope ["row", "size", "ahead", "taken"] ["row", "size"] (defScope s_carry_back) := ⟨rfl, rfl, rfl, by decide +kernel, rfl, by decide +kernel, by decide +kernel⟩
noncomputable abbrev s_blocks_in : Stmt := top 9
theorem sc_blocks_in : FnScope ["row", "firsts", "lasts"] ["row"] (defScope s_blocks_in) := ⟨rfl, rfl, rfl, by decide +kernel, rfl, by decide +kernel, by decide +kernel⟩
noncomputable abbrev s_closed_up : Stmt := top 10
theorem sc_closed_up : FnScope ["places", "out", "left"] ["places", "out"] (defScope s_closed_up) := ⟨rfl, rfl, rfl, by decide +kernel, rfl, by decide +kernel, by decide +kernel⟩
noncomputable abbrev s_lengths_from : Stmt := top 11
theorem sc_lengths_from : FnScope ["counts", "first"] ["counts"] (defScope s_lengths_from) := ⟨rfl, rfl, rfl, by decide +kernel, rfl, by decide +kernel, by decide +kernel⟩
noncomputable abbrev s_pairs : Stmt := top 13
theorem sc_pairs : FnScope ["row", "found", "held", "box", "place"] ["row"] (defScope s_pairs) := ⟨rfl, rfl, rfl, by decide +kernel, rfl, by decide +kernel, by decide +kernel⟩
noncomputable abbrev s_depths : Stmt := top 14
theorem sc_depths : FnScope ["row", "told", "inner", "ball", "box", "depth"] ["row"] (defScope s_depths) := ⟨rfl, rfl, rfl, by decide +kernel, rfl, by decide +kernel, by decide +kernel⟩
noncomputable abbrev s_peeled : Stmt := top 15
theorem sc_peeled : FnScope ["row", "balls"] ["row"] (defScope s_peeled) := ⟨rfl, rfl, rfl, by decide +kernel, rfl, by decide +kernel, by decide +kernel⟩
noncomputable abbrev s_lengths : Stmt := top 17
theorem sc_lengths : FnScope ["row", "counts", "left", "rest"] ["row"] (defScope s_lengths) := ⟨rfl, rfl, rfl, by decide +kernel, rfl, by decide +kernel, by decide +kernel⟩
noncomputable abbrev s_one_making : Stmt := top 18
theorem sc_one_making : FnScope ["one", "other"] ["one", "other"] (defScope s_one_making) := ⟨rfl, rfl, rfl, by decide +kernel, rfl, by decide +kernel, by decide +kernel⟩
noncomputable abbrev s_runs_in : Stmt := top 19
theorem sc_runs_in : FnScope ["row", "found", "starts", "runs", "at", "first", "many", "behind", "end"] ["row"] (defScope s_runs_in) := ⟨rfl, rfl, rfl, by decide +kernel, rfl, by decide +kernel, by decide +kernel⟩
noncomputable abbrev s_first_short : Stmt := top 20
theorem sc_first_short : FnScope ["runs", "at"] ["runs"] (defScope s_first_short) := ⟨rfl, rfl, rfl, by decide +kernel, rfl, by decide +kernel, by decide +kernel⟩
noncomputable abbrev s_without_wave : Stmt := top 21
theorem sc_without_wave : FnScope ["runs", "at", "rest"] ["runs", "at"] (defScope s_without_wave) := ⟨rfl, rfl, rfl, by decide +kernel, rfl, by decide +kernel, by decide +kernel⟩
noncomputable abbrev s_waves : Stmt := top 22
theorem sc_waves : FnScope ["row", "told", "runs", "at", "short", "behind"] ["row"] (defScope s_waves) := ⟨rfl, rfl, rfl, by decide +kernel, rfl, by decide +kernel, by decide +kernel⟩
noncomputable abbrev s_carried_by : Stmt := top 25
theorem sc_carried_by : FnScope ["row", "size", "behind", "taken"] ["row", "size"] (defScope s_carried_by) := ⟨rfl, rfl, rfl, by decide +kernel, rfl, by decide +kernel, by decide +kernel⟩
noncomputable abbrev s_taken_by : Stmt := top 26
theorem sc_taken_by : FnScope ["row", "size", "behind", "taken"] ["row", "size"] (defScope s_taken_by) := ⟨rfl, rfl, rfl, by decide +kernel, rfl, by decide +kernel, by decide +kernel⟩
noncomputable abbrev s_takings : Stmt := top 27
theorem sc_takings : FnScope ["row", "told", "size", "behind", "taken"] ["row"] (defScope s_takings) := ⟨rfl, rfl, rfl, by decide +kernel, rfl, by decide +kernel, by decide +kernel⟩
noncomputable abbrev s_carried : Stmt := top 30
theorem sc_carried : FnScope ["row", "behind", "taken"] ["row"] (defScope s_carried) := ⟨rfl, rfl, rfl, by decide +kernel, rfl, by decide +kernel, by decide +kernel⟩
noncomputable abbrev s_undone : Stmt := top 31
theorem sc_undone : FnScope ["row"] ["row"] (defScope s_undone) := ⟨rfl, rfl, rfl, by decide +kernel, rfl, by decide +kernel, by decide +kernel⟩
noncomputable abbrev s_later : Stmt := top 32
theorem sc_later : FnScope ["row", "steps", "there", "turn"] ["row", "steps"] (defScope s_later) := ⟨rfl, rfl, rfl, by decide +kernel, rfl, by decide +kernel, by decide +kernel⟩
noncomputable abbrev s_L_cell_at : Stmt := top 34
theorem sc_L_cell_at : FnScope ["_law_script", "_law_k"] ["_law_script", "_law_k"] (defScope s_L_cell_at) := ⟨rfl, rfl, rfl, by decide +kernel, rfl, by decide +kernel, by decide +kernel⟩
noncomputable abbrev s_L_state : Stmt := top 35
theorem sc_L_state : FnScope ["_law_script", "_law_k", "_law_cell"] ["_law_script", "_law_k"] (defScope s_L_state) := ⟨rfl, rfl, rfl, by decide +kernel, rfl, by decide +kernel, by decide +kernel⟩
noncomputable abbrev s_L_take : Stmt := top 36
theorem sc_L_take : FnScope ["_law_state_here", "_law_many", "_law_found", "_law_mixed"] ["_law_state_here", "_law_many"] (defScope s_L_take) := ⟨rfl, rfl, rfl, by decide +kernel, rfl, by decide +kernel, by decide +kernel⟩
noncomputable abbrev s_L_row : Stmt := top 37
theorem sc_L_row : FnScope ["_law_state_here", "_law_gaps", "_law_found", "_law_place", "_law_turn", "_law_size", "_law_ball"] ["_law_state_here", "_law_gaps"] (defScope s_L_row) := ⟨rfl, rfl, rfl, by decide +kernel, rfl, by decide +kernel, by decide +kernel⟩
noncomputable abbrev s_L_far : Stmt := top 38
theorem sc_L_far : FnScope ["_law_state_here", "_law_row_here", "_law_kind", "_law_far_here", "_law_at"] ["_law_state_here", "_law_row_here"] (defScope s_L_far) := ⟨rfl, rfl, rfl, by decide +kernel, rfl, by decide +kernel, by decide +kernel⟩
noncomputable abbrev s_L_waves_right : Stmt := top 39
theorem sc_L_waves_right : FnScope ["_law_row_here", "_law_due", "_law_some", "_law_balls", "_law_boxes", "_law_one", "_law_other"] ["_law_row_here", "_law_due"] (defScope s_L_waves_right) := ⟨rfl, rfl, rfl, by decide +kernel, rfl, by decide +kernel, by decide +kernel⟩
noncomputable abbrev s_law : Stmt := top 40
theorem sc_law : FnScope ["_law_script", "_law_k", "_law_state_here", "_law_row_here", "_law_due", "_law_steps", "_law_size", "_law_there"] ["_law_script"] (defScope s_law) := ⟨rfl, rfl, rfl, by decide +kernel, rfl, by decide +kernel, by decide +kernel⟩
/-! ### the draws -/
noncomputable def Dok (x : Int) (b : Bool) : Prop := 0 ≤ x ∧ (b = false → x < 2147483647)
noncomputable def StAt (H : Hp) (a : Addr) (x : Int) (b : Bool) : Prop := H a = some (.lst [.int x, .bl b]) ∧ Dok x b
/-- all but what stands at a is as it was -/
noncomputable def Keep (a : Addr) (H H' : Hp) : Prop := ∀ c o, c ≠ a → H c = some o → H' c = some o
theorem at_ints {ns : List Int} {k : Int} (h0 : 0 ≤ k) (h1 : k < (ns.length : Int)) : ∃ v : Int, atI (ns.map V.int) k = some (.int v) ∧ ns[k.toNat]? = some v := by
  have hk : k.toNat < ns.length := by omega
  have ek : ((k.toNat : Nat) : Int) = k := by omega
  refine ⟨ns[k.toNat], ?_, List.getElem?_eq_getElem hk⟩
  have q : atI (ns.map V.int) ((k.toNat : Nat) : Int) = some (.int ns[k.toNat]) := atI_nat (by rw [List.getElem?_map, List.getElem?_eq_getElem hk] <;> rfl)
  rw [ek] at q
  exact q
noncomputable def spCell (K : PySem.W.Frag) : Sp := fun vs H Q _ => ∃ (a : Addr) (ns : List Int) (k : Int), vs = [.ref a, .int k] ∧ SqL K H a (ns.map V.int) ∧ 0 ≤ k ∧ ∀ c : Int, Q (.int c) H
noncomputable def spState (K : PySem.W.Frag) : Sp := fun vs H Q _ => ∃ (a : Addr) (ns : List Int) (k : Int), vs = [.ref a, .int k] ∧ SqL K H a (ns.map V.int) ∧ 0 ≤ k ∧
  ∀ (r : Addr) (x : Int) (b : Bool), H r = none → Dok x b → Q (.ref r) (upd H r (.lst [.int x, .bl b]))
noncomputable def spTake (K : PySem.W.Frag) : Sp := fun vs H Q _ => ∃ (a : Addr) (x : Int) (b : Bool) (m : Int), vs = [.ref a, .int m] ∧ StAt H a x b ∧ 0 < m ∧ m < 1073741824 ∧
  ∀ (v x' : Int), 0 ≤ v → v < m → Dok x' b → Q (.int v) (upd H a (.lst [.int x', .bl b]))
section
variable {P : Program} {w : World} {K : PySem.W.Frag} {mg : Str → Option Value} {base : Heap}
set_option maxRecDepth 100000 in
theorem ok_L_cell_at {f : Addr} {fd : FuncData} (F : Fun K "_law_cell_at" "_law_cell_at" s_L_cell_at f fd) (nb : Nb mg)   :
    FnOk P w K mg base CX0 1 f fd ["_law_script", "_law_k"] (spCell K) := by
  have nd := sc_L_cell_at.nd
  refine F.ok (k := 0) sc_L_cell_at (fun vs H Q E h => ?_) (fun cdv A outer s H vs Q E hr h => ?_)
  · obtain ⟨a, ns, k, rfl, _⟩ := h
    rfl
  obtain ⟨a, ns, k, rfl, hS, h0, q⟩ := h
  refine ⟨_, (pss_cons (ps_if (pt_cmpR op_lt (pv 1) (pe_callB call_len_seq rfl nb.len PySem.boot_len (pa_cons (pv 0) pa_nil)) (nomark _))
   (pss_one (ps_ret (pe_ix ix_list (pv 0) (pv 1) (fun _ _ => rfl))))
   pss_nil)
  (pss_one (ps_ret pe_int))), ?_⟩
  refine ⟨_, rfl, _, rfl, a, _, rfl, .inl hS, _, _, rfl, rfl, _, rfl, ?_⟩
  refine ite2 (fun c => ?_) (fun c => ?_)
  · have c' : k < (((ns.map V.int).length : Nat) : Int) := of_decide_eq_true c
    rw [List.length_map] at c'
    obtain ⟨v, q1, _⟩ := at_ints h0 c'
    exact ⟨_, rfl, _, rfl, a, _, _, _, rfl, rfl, hS, q1, q _⟩
  · exact q 0
set_option maxRecDepth 100000 in
theorem ok_L_state {f : Addr} {fd : FuncData} (F : Fun K "_law_state" "_law_state" s_L_state f fd) (nb : Nb mg) (h_L_cell_at : Has P w K mg base 1 "_law_cell_at" ["_law_script", "_law_k"] (spCell K))  :
    FnOk P w K mg base CX0 2 f fd ["_law_script", "_law_k"] (spState K) := by
  have nd := sc_L_state.nd
  refine F.ok (k := 1) sc_L_state (fun vs H Q E h => ?_) (fun cdv A outer s H vs Q E hr h => ?_)
  · obtain ⟨a, ns, k, rfl, _⟩ := h
    rfl
  obtain ⟨a, ns, k, rfl, hS, h0, q⟩ := h
  refine ⟨_, (pss_cons (ps_set (i := 2) nd rfl (Or.inl rfl) (pe_def h_L_cell_at hr (pa_cons (pv 0) (pa_cons (pv 1) pa_nil))))
  (pss_cons (ps_if (pt_cmpR op_ge (pv 2) (pe_op op_pow pe_int pe_int) (nomark _))
   (pss_one (ps_ret (pe_lst (pa_cons (pe_op op_sub (pv 2) (pe_op op_pow pe_int pe_int)) (pa_cons pe_bl pa_nil)))))
   pss_nil)
  (pss_one (ps_ret (pe_lst (pa_cons (pe_op op_mod (pv 2) pe_int) (pa_cons pe_bl pa_nil))))))), ?_⟩
  refine ⟨_, rfl, _, rfl, a, ns, k, rfl, hS, h0, fun c => ?_⟩
  refine ⟨_, rfl, _, _, rfl, rfl, ⟨by decide, by decide, by decide⟩, _, _, rfl, rfl, _, rfl, ?_⟩
  refine ite2 (fun z => ?_) (fun z => ?_)
  · have z' : (10 : Int) ^ 18 ≤ c := of_decide_eq_true z
    refine ⟨_, rfl, _, _, rfl, rfl, ⟨by decide, by decide, by decide⟩, _, _, rfl, rfl, (by show 2 ≤ sizeLine; decide), fun r hr' => q r _ true hr' ⟨?_, fun e => by cases e⟩⟩
    show (0 : Int) ≤ c - 10 ^ 18
    omega
  · refine ⟨_, rfl, _, _, rfl, rfl, (by show (0 : Int) < 2147483647; decide), (by show 2 ≤ sizeLine; decide), fun r hr' => q r _ false hr' ⟨?_, fun _ => ?_⟩⟩
    · exact Int.emod_nonneg _ (by decide)
    · exact Int.emod_lt_of_pos _ (by decide)
set_option maxRecDepth 100000 in
theorem ok_L_take {f : Addr} {fd : FuncData} (F : Fun K "_law_take" "_law_take" s_L_take f fd) (nb : Nb mg)   :
    FnOk P w K mg base CX0 1 f fd ["_law_state_here", "_law_many"] (spTake K) := by
  have nd := sc_L_take.nd
  refine F.ok (k := 0) sc_L_take (fun vs H Q E h => ?_) (fun cdv A outer s H vs Q E hr h => ?_)
  · obtain ⟨a, x, b, m, rfl, _⟩ := h
    rfl
  obtain ⟨a, x, b, m, rfl, ⟨hS, d0, d1⟩, m0, m1, q⟩ := h
  refine ⟨_, (pss_cons (ps_if (pt_truth (pe_ix ix_list (pv 0) pe_int (fun _ _ => rfl)) (fun _ => rfl))
   (pss_cons (ps_set (i := 2) nd rfl (Or.inl rfl) (pe_op op_mod (pe_ix ix_list (pv 0) pe_int (fun _ _ => rfl)) (pv 1)))
  (pss_cons (ps_asg (pe_op op_fdiv (pe_ix ix_list (pv 0) pe_int (fun _ _ => rfl)) (pv 1)) (pg_sub (pv 0) pe_int set_list))
  (pss_one (ps_ret (pv 2)))))
   pss_nil)
  (pss_cons (ps_asg (pe_op op_mod (pe_op op_add (pe_op op_mul (pe_ix ix_list (pv 0) pe_int (fun _ _ => rfl)) pe_int) pe_int) pe_int) (pg_sub (pv 0) pe_int set_list))
  (pss_cons (ps_set (i := 3) nd rfl (Or.inl rfl) (pe_op op_mod (pe_op op_add (pe_op op_add (pe_op op_mul (pe_ix ix_list (pv 0) pe_int (fun _ _ => rfl)) (pe_ix ix_list (pv 0) pe_int (fun _ _ => rfl))) (pe_op op_mul pe_int (pe_ix ix_list (pv 0) pe_int (fun _ _ => rfl)))) pe_int) pe_int))
  (pss_cons (ps_set (i := 3) nd rfl (Or.inl rfl) (pe_op op_mod (pe_op op_add (pe_op op_mul (pv 3) (pv 3)) (pe_op op_mul pe_int (pv 3))) pe_int))
  (pss_one (ps_ret (pe_op op_mod (pe_op op_fdiv (pv 3) pe_int) (pv 1)))))))), ?_⟩
  refine ⟨_, rfl, a, _, _, _, rfl, rfl, SqL.of hS, rfl, b, rfl, ?_⟩
  cases b with
  | true =>
    refine iteT ?_
    refine ⟨_, rfl, a, _, _, _, rfl, rfl, SqL.of hS, rfl, _, rfl, _, _, rfl, rfl, m0, ?_⟩
    refine ⟨_, rfl, a, _, _, _, rfl, rfl, SqL.of hS, rfl, _, rfl, _, _, rfl, rfl, ⟨m0, m1⟩, ?_⟩
    refine ⟨_, rfl, a, _, _, 0, rfl, rfl, hS, rfl, ?_⟩
    refine ⟨_, rfl, ?_⟩
    exact q _ _ (Int.emod_nonneg _ (by omega)) (Int.emod_lt_of_pos _ m0) ⟨Int.ediv_nonneg d0 (by omega), fun e => by cases e⟩
  | false =>
    refine iteF ?_
    have d2 := d1 rfl
    refine ⟨_, rfl, a, _, _, _, rfl, rfl, SqL.of hS, rfl, _, _, rfl, rfl, .inl ⟨by omega, by omega⟩, _, _, rfl, rfl, _, _, rfl, rfl, (by show (0 : Int) < 2147483647; decide), ?_⟩
    refine ⟨_, rfl, a, _, _, 0, rfl, rfl, hS, rfl, ?_⟩
    have e0 : (0 : Int) ≤ (x * 48271 + 29) % 2147483647 := Int.emod_nonneg _ (by decide)
    have e1 : (x * 48271 + 29) % 2147483647 < 2147483647 := Int.emod_lt_of_pos _ (by decide)
    refine ⟨_, rfl, a, _, _, _, rfl, rfl, SqL.of upd_same, rfl, _, rfl, a, _, _, _, rfl, rfl, SqL.of upd_same, rfl, _, _, rfl, rfl, .inl ⟨by omega, by omega⟩, _, rfl, a, _, _, _, rfl, rfl, SqL.of upd_same, rfl, _, _, rfl, rfl, .inl ⟨by decide, by decide⟩, _, _, rfl, rfl, _, _, rfl, rfl, _, _, rfl, rfl, (by show (0 : Int) < 2147483629; decide), ?_⟩
    refine ⟨_, rfl, _, rfl, _, _, rfl, rfl, .inl ⟨?_, ?_⟩, _, rfl, _, _, rfl, rfl, .inl ⟨by decide, by decide⟩, _, _, rfl, rfl, _, _, rfl, rfl, (by show (0 : Int) < 2147483587; decide), ?_⟩
    · exact Int.lt_of_lt_of_le (by decide) (Int.emod_nonneg _ (by decide))
    · exact Int.lt_trans (Int.emod_lt_of_pos _ (by decide)) (by decide)
    refine ⟨_, rfl, _, _, rfl, rfl, ⟨by decide, by decide⟩, _, rfl, _, _, rfl, rfl, m0, ?_⟩
    exact q _ _ (Int.emod_nonneg _ (by omega)) (Int.emod_lt_of_pos _ m0) ⟨e0, fun _ => e1⟩
end
end K34
end
section
namespace K34
open PySem PySem.Spec PyProof.Rows L2
set_option maxHeartbeats 4000000
set_option Elab.async false
set_option linter.unusedVariables false
/-! ### numbers and rows -/
noncomputable def numB (lo hi : Int) : V → Bool
  | .int i => decide (lo ≤ i) && decide (i ≤ hi)
  | _ => false
theorem kn_cases {H : Hp} {v : V} {T : String} (h : Kn H v T) : (T = "bool" ∧ ∃ b, v = .bl b) ∨ (T = "int" ∧ ∃ i, v = .int i) ∨ (subT T "bool" = false ∧ subT T "int" = false ∧ ∀ lo hi, numB lo hi v = false) := by
  cases h with
  | bl b => exact .inl ⟨rfl, b, rfl⟩
  | int i => exact .inr (.inl ⟨rfl, i, rfl⟩)
  | _ => exact .inr (.inr ⟨by decide, by decide, fun _ _ => rfl⟩)
noncomputable def spNum : Sp := fun vs H Q _ => ∃ (v : V) (T : String) (lo hi : Int), vs = [v, .int lo, .int hi] ∧ Kn H v T ∧ Q (.bl (numB lo hi v)) H
theorem cut_from (xs : List V) (k : Nat) : cutV xs (some (k : Int)) none = xs.drop k := by
  unfold cutV
  rw [HT.sIx_nat, HT.sIx_none]
  by_cases h : k ≤ xs.length
  · rw [Nat.min_eq_left h, List.take_of_length_le (by rw [List.length_drop]; exact Nat.le_refl _)]
  · rw [Nat.min_eq_right (by omega), List.drop_eq_nil_of_le (Nat.le_refl _), List.drop_eq_nil_of_le (by omega), List.take_nil]
theorem cut_to (xs : List V) (k : Nat) : cutV xs none (some (k : Int)) = xs.take k := by
  unfold cutV
  rw [HT.sIx_nat, HT.sIx_none, List.drop_zero, Nat.sub_zero]
  by_cases h : k ≤ xs.length
  · rw [Nat.min_eq_left h]
  · rw [Nat.min_eq_right (by omega), List.take_length, List.take_of_length_le (by omega)]
theorem getD_of {ns : List Int} {i : Nat} {v : Int} (h : (ns.map V.int)[i]? = some (.int v)) : ns.getD i 0 = v := by
  rw [List.getElem?_map] at h
  cases e : ns[i]? with
  | none => rw [e] at h; cases h
  | some z =>
    rw [e] at h
    have : z = v := by simpa using h
    rw [List.getD_eq_getElem?_getD, e, this]
    rfl
theorem int_at {ns : List Int} {i : Nat} {x : V} (h : (ns.map V.int)[i]? = some x) : ∃ v, x = .int v ∧ ns.getD i 0 = v := by
  have h' := h
  rw [List.getElem?_map] at h
  cases e : ns[i]? with
  | none => rw [e] at h; cases h
  | some z =>
    rw [e] at h
    have : x = .int z := by simpa using h.symm
    subst this
    exact ⟨z, rfl, getD_of h'⟩
section
variable {P : Program} {w : World} {K : PySem.W.Frag} {mg : Str → Option Value} {base : Heap}
set_option maxRecDepth 100000 in
theorem ok_is_number {f : Addr} {fd : FuncData} (F : Fun K "is_number" "is_number" s_is_number f fd) (nb : Nb mg)   :
    FnOk P w K mg base CX0 1 f fd ["thing", "least", "greatest"] spNum := by
  have nd := sc_is_number.nd
  refine F.ok (k := 0) sc_is_number (fun vs H Q E h => ?_) (fun cdv A outer s H vs Q E hr h => ?_)
  · obtain ⟨v, T, lo, hi, rfl, _⟩ := h
    rfl
  obtain ⟨v, T, lo, hi, rfl, hk, q⟩ := h
  refine ⟨_, (pss_cons (ps_if (PW.pt (pw_or (pt_truth (pe_callB call_isi rfl nb.isi boot_isinstance (pa_cons (pv 0) (pa_cons (pe_ty nb.bool boot_bool) pa_nil))) (fun _ => rfl)) (pw_or1 (pt_not (pt_truth (pe_callB call_isi rfl nb.isi boot_isinstance (pa_cons (pv 0) (pa_cons (pe_ty nb.int boot_int) pa_nil))) (fun _ => rfl))))))
   (pss_one (ps_ret pe_bl))
   pss_nil)
  (pss_one (ps_ret (pe_chain op_le op_le (pv 1) (pv 0) (pv 2))))), ?_⟩
  refine ⟨_, rfl, _, _, _, rfl, hk, .inr (.inl rfl), _, rfl, ?_⟩
  rcases kn_cases hk with ⟨rfl, b, rfl⟩ | ⟨rfl, i, rfl⟩ | ⟨e1, e2, e3⟩
  · exact iteT (iteT q)
  · refine iteF ⟨_, rfl, _, _, _, rfl, hk, .inl rfl, _, rfl, iteF ?_⟩
    refine ⟨_, rfl, _, rfl, _, _, rfl, rfl, _, rfl, ?_⟩
    by_cases c : lo ≤ i
    · rw [if_pos (decide_eq_true c)]
      refine ⟨_, rfl, _, _, rfl, rfl, ?_⟩
      have e : numB lo hi (.int i) = decide (i ≤ hi) := by show (decide (lo ≤ i) && decide (i ≤ hi)) = _; rw [decide_eq_true c, Bool.true_and]
      rw [e] at q
      exact q
    · rw [if_neg (by rw [decide_eq_false c]; decide)]
      have e : numB lo hi (.int i) = false := by show (decide (lo ≤ i) && decide (i ≤ hi)) = _; rw [decide_eq_false c, Bool.false_and]
      rw [e] at q
      exact q
  · rw [e1]
    refine iteF ⟨_, rfl, _, _, _, rfl, hk, .inl rfl, _, rfl, ?_⟩
    rw [e2]
    rw [e3] at q
    exact iteT q
end
end K34
end
section
namespace K34
open PySem PySem.Spec PyProof.Rows L2
set_option maxHeartbeats 4000000
set_option Elab.async false
set_option linter.unusedVariables false
theorem at_mem {xs : List V} {k : Int} (h0 : 0 ≤ k) (h1 : k < (xs.length : Int)) : ∃ u, atI xs k = some u ∧ u ∈ xs ∧ xs[k.toNat]? = some u := by
  have hk : k.toNat < xs.length := by omega
  have ek : ((k.toNat : Nat) : Int) = k := by omega
  have q : atI xs ((k.toNat : Nat) : Int) = some xs[k.toNat] := atI_nat (List.getElem?_eq_getElem hk)
  rw [ek] at q
  exact ⟨xs[k.toNat], q, List.getElem_mem hk, List.getElem?_eq_getElem hk⟩
theorem Keep.refl (a : Addr) (H : Hp) : Keep a H H := fun _ _ _ h => h
theorem Keep.trans {a : Addr} {H H1 H2 : Hp} (k : Keep a H H1) (k' : Keep a H1 H2) : Keep a H H2 := fun c o n h => k' c o n (k c o n h)
theorem Keep.same {a : Addr} {H H1 H2 : Hp} (k : Keep a H H1) (s : Same H1 H2) : Keep a H H2 := fun c o n h => s c o (k c o n h)
theorem keep_upd (a : Addr) (H : Hp) (o : HO) : Keep a H (upd H a o) := fun c u n h => by rw [upd_ne n]; exact h
theorem StAt.same {H H' : Hp} {a : Addr} {x : Int} {b : Bool} (h : StAt H a x b) (s : Same H H') : StAt H' a x b := ⟨s _ _ h.1, h.2⟩
theorem StAt.upd {H : Hp} {a : Addr} {x' : Int} {b : Bool} (d : Dok x' b) : StAt (L2.upd H a (.lst [.int x', .bl b])) a x' b := ⟨upd_same, d⟩
theorem ints_ne {ns : List Int} {x : Int} {b : Bool} : HO.lst (ns.map V.int) ≠ HO.lst [.int x, .bl b] := by
  intro e
  have e' : ns.map V.int = [.int x, .bl b] := by injection e
  cases ns with
  | nil => cases e'
  | cons n r => cases r with
    | nil => cases e'
    | cons m r => cases e'
/-- a row that is drawn -/
structure RowOk (row : List Int) : Prop where
  len : row.length ≤ 12
  up : row.Pairwise (· < ·)
  bd : ∀ p ∈ row, -20 ≤ p ∧ p ≤ 200
structure RI (H0 : Hp) (a g f : Addr) (b : Bool) (H : Hp) (place bd : Int) : Prop where
  st : ∃ x, StAt H a x b
  kp : Keep a H0 H
  gg : H g = some (.lst [.int 2, .int 5, .int 12])
  ff : ∃ row : List Int, H f = some (.lst (row.map V.int)) ∧ row.length ≤ 12 ∧ row.Pairwise (· < ·) ∧ ∀ p ∈ row, -20 ≤ p ∧ p < place
  lo : -20 ≤ place
  hi : place ≤ bd
  fa : f ≠ a
  ga : g ≠ a
  f0 : H0 f = none
  fg : g ≠ f
theorem RI.take {H0 H : Hp} {a g f : Addr} {b : Bool} {place bd x' : Int} (r : RI H0 a g f b H place bd) (d : Dok x' b) : RI H0 a g f b (upd H a (.lst [.int x', .bl b])) place bd := by
  refine ⟨⟨x', StAt.upd d⟩, r.kp.trans (keep_upd a H _), by rw [upd_ne r.ga]; exact r.gg, ?_, r.lo, r.hi, r.fa, r.ga, r.f0, r.fg⟩
  obtain ⟨row, h, z⟩ := r.ff
  exact ⟨row, by rw [upd_ne r.fa]; exact h, z⟩
theorem RI.new {H0 H : Hp} {a g f p : Addr} {b : Bool} {place bd : Int} {o : HO} (r : RI H0 a g f b H place bd) (hp : H p = none) : RI H0 a g f b (upd H p o) place bd := by
  have s := same_new hp o
  obtain ⟨row, h, z⟩ := r.ff
  obtain ⟨x, hx⟩ := r.st
  exact ⟨⟨x, hx.same s⟩, r.kp.same s, s _ _ r.gg, ⟨row, s _ _ h, z⟩, r.lo, r.hi, r.fa, r.ga, r.f0, r.fg⟩
theorem RI.go {H0 H : Hp} {a g f : Addr} {b : Bool} {place bd p' bd' : Int} (r : RI H0 a g f b H place bd) (h1 : place ≤ p') (h2 : p' ≤ bd') : RI H0 a g f b H p' bd' := by
  obtain ⟨row, h, z1, z2, z3⟩ := r.ff
  exact ⟨r.st, r.kp, r.gg, ⟨row, h, z1, z2, fun p hp => ⟨(z3 p hp).1, by have := (z3 p hp).2; omega⟩⟩, by have := r.lo; omega, h2, r.fa, r.ga, r.f0, r.fg⟩
theorem RI.app {H0 H : Hp} {a g f : Addr} {b : Bool} {place bd : Int} {row : List Int} (r : RI H0 a g f b H place bd) (h : H f = some (.lst (row.map V.int))) (z1 : row.length < 12) (z2 : row.Pairwise (· < ·)) (z3 : ∀ p ∈ row, -20 ≤ p ∧ p < place) :
    RI H0 a g f b (upd H f (.lst (row.map V.int ++ [.int place]))) (place + 1) (bd + 1) := by
  obtain ⟨x, hx⟩ := r.st
  refine ⟨⟨x, ?_, hx.2⟩, fun c o n hc => ?_, by rw [upd_ne r.fg]; exact r.gg, ⟨row ++ [place], ?_, ?_, ?_, ?_⟩, by have := r.lo; omega, by have := r.hi; omega, r.fa, r.ga, r.f0, r.fg⟩
  · rw [upd_ne (Ne.symm r.fa)]; exact hx.1
  · rw [upd_ne (ne_of_none hc r.f0)]; exact r.kp c o n hc
  · rw [upd_same, List.map_append]; rfl
  · rw [List.length_append, List.length_singleton]; omega
  · exact List.pairwise_append.mpr ⟨z2, List.pairwise_singleton _ _, fun p hp q hq => by
      have : q = place := by simpa using hq
      rw [this]; exact (z3 p hp).2⟩
  · intro p hp
    rcases List.mem_append.mp hp with h' | h'
    · have := z3 p h'; omega
    · have : p = place := by simpa using h'
      have := r.lo; omega
noncomputable def spRow : Sp := fun vs H Q _ => ∃ (a g : Addr) (x : Int) (b : Bool), vs = [.ref a, .ref g] ∧ StAt H a x b ∧ H g = some (.lst [.int 2, .int 5, .int 12]) ∧
  ∀ (r : Addr) (row : List Int) (H' : Hp) (x' : Int), Keep a H H' → StAt H' a x' b → H' r = some (.tup (row.map V.int)) → RowOk row → Q (.ref r) H'
section
variable {P : Program} {w : World} {K : PySem.W.Frag} {mg : Str → Option Value} {base : Heap}
set_option maxRecDepth 100000 in
theorem ok_L_row {f : Addr} {fd : FuncData} (F : Fun K "_law_row" "_law_row" s_L_row f fd) (nb : Nb mg) (h_L_take : Has P w K mg base 1 "_law_take" ["_law_state_here", "_law_many"] (spTake K))  :
    FnOk P w K mg base CX0 2 f fd ["_law_state_here", "_law_gaps"] spRow := by
  have nd := sc_L_row.nd
  refine F.ok (k := 1) sc_L_row (fun vs H Q E h => ?_) (fun cdv A outer s H vs Q E hr h => ?_)
  · obtain ⟨a, g, x, b, rfl, _⟩ := h
    rfl
  obtain ⟨a, g, x, b, rfl, hS, hg, q⟩ := h
  refine ⟨_, (pss_cons (ps_set (i := 2) nd rfl (Or.inl rfl) (pe_lst pa_nil))
  (pss_cons (ps_set (i := 3) nd rfl (Or.inl rfl) (pe_ix ix_list (pe_lst (pa_cons pe_int (pa_cons (pe_un un_neg pe_int) (pa_cons (pe_op op_sub (pe_def h_L_take hr (pa_cons (pv 0) (pa_cons pe_int pa_nil))) pe_int) pa_nil)))) (pe_def h_L_take hr (pa_cons (pv 0) (pa_cons pe_int pa_nil))) (fun _ _ => rfl)))
  (pss_cons (ps_for PassesOwn.never rfl (pi_range1 rfl nb.range (pa_cons (pe_def h_L_take hr (pa_cons (pv 0) (pa_cons pe_int pa_nil))) pa_nil)) (pg_name (i := 4) nd rfl (Or.inl rfl))
   (pss_cons (ps_set (i := 5) nd rfl (Or.inl rfl) (pe_op op_add pe_int (pe_def h_L_take hr (pa_cons (pv 0) (pa_cons (pe_ix ix_list (pe_lst (pa_cons pe_int (pa_cons pe_int (pa_cons pe_int pa_nil)))) (pe_def h_L_take hr (pa_cons (pv 0) (pa_cons pe_int pa_nil))) (fun _ _ => rfl)) pa_nil)))))
  (pss_cons (ps_for PassesOwn.never rfl (pi_range1 rfl nb.range (pa_cons (pv 5) pa_nil)) (pg_name (i := 6) nd rfl (Or.inl rfl))
   (pss_cons (ps_if (pt_cmpR op_lt (pe_callB call_len_seq rfl nb.len PySem.boot_len (pa_cons (pv 2) pa_nil)) pe_int (nomark _))
   (pss_one (ps_expr (pe_bm PySem.F.plainAttrs_list PySem.F.slot_list_append PySem.F.type_list_append mt_append (pv 2) (pa_cons (pv 3) pa_nil))))
   pss_nil)
  (pss_one (ps_set (i := 3) nd rfl (Or.inl rfl) (pe_op op_add (pv 3) pe_int)))))
  (pss_one (ps_set (i := 3) nd rfl (Or.inl rfl) (pe_op op_add (pe_op op_add (pv 3) pe_int) (pe_def h_L_take hr (pa_cons (pv 0) (pa_cons (pe_ix ix_list (pv 1) (pe_def h_L_take hr (pa_cons (pv 0) (pa_cons (pe_callB call_len_seq rfl nb.len PySem.boot_len (pa_cons (pv 1) pa_nil)) pa_nil))) (fun _ _ => rfl)) pa_nil)))))))))
  (pss_one (ps_ret (pe_callTy call_tuple_of rfl nb.tuple boot_tuple (pa_cons (pv 2) pa_nil))))))), ?_⟩
  refine ⟨(by show 0 ≤ sizeLine; decide), fun f hf => ?_⟩
  have fa : f ≠ a := (ne_of_none hS.1 hf).symm
  have fg : g ≠ f := ne_of_none hg hf
  have ga : g ≠ a := ne_of hg hS.1 (ints_ne (ns := [2, 5, 12]))
  have r0 : RI H a g f b (upd H f (.lst [])) (-20) 20 := ⟨⟨x, hS.same (same_new hf _)⟩, (Keep.refl a H).same (same_new hf _), same_new hf _ _ _ hg, ⟨[], upd_same, by simp, .nil, fun p hp => absurd hp (by simp)⟩, by omega, by omega, fa, ga, hf, fg⟩
  obtain ⟨x1, st1⟩ := r0.st
  refine ⟨_, rfl, _, rfl, a, x1, b, 41, rfl, st1, by decide, by decide, fun v1 x2 v10 v11 d2 => ?_⟩
  have r1 := r0.take d2
  refine ⟨_, _, rfl, rfl, (by show 3 ≤ sizeLine; decide), fun p hp => ?_⟩
  have r2 := r1.new (o := .lst [.int 0, .int (-7), .int (v1 - 20)]) hp
  obtain ⟨x3, st3⟩ := r2.st
  refine ⟨_, rfl, a, x3, b, 3, rfl, st3, by decide, by decide, fun v2 x4 v20 v21 d4 => ?_⟩
  have r3 := r2.take d4
  have pa : p ≠ a := fun e => by
    obtain ⟨x5, st5⟩ := r1.st
    rw [e, st5.1] at hp; cases hp
  obtain ⟨u, hu, um, _⟩ := at_mem (xs := [.int 0, .int (-7), .int (v1 - 20)]) v20 (by simpa using v21)
  have hpl : ∃ pl : Int, u = .int pl ∧ -20 ≤ pl ∧ pl ≤ 20 := by
    simp only [List.mem_cons, List.not_mem_nil, or_false] at um
    rcases um with rfl | rfl | rfl
    · exact ⟨_, rfl, by omega, by omega⟩
    · exact ⟨_, rfl, by omega, by omega⟩
    · exact ⟨_, rfl, by omega, by omega⟩
  obtain ⟨pl, rfl, pl0, pl1⟩ := hpl
  refine ⟨p, _, _, _, rfl, rfl, SqL.of (by rw [upd_ne pa]; exact upd_same), hu, ?_⟩
  have r4 := r3.go (p' := pl) (bd' := 20) pl0 pl1
  obtain ⟨x6, st6⟩ := r4.st
  refine ⟨_, rfl, a, x6, b, 6, rfl, st6, by decide, by decide, fun v3 x7 v30 v31 d7 => ?_⟩
  have r5 := r4.take d7
  refine ⟨v3, rfl, by omega, by omega, ?_⟩
  refine for_range (fun i σ H' => ∃ (pl : Int) (o1 o2 o3 : Option V), σ = [some (.ref a), some (.ref g), some (.ref f), some (.int pl), o1, o2, o3] ∧ RI H a g f b H' pl (20 + 17 * (i : Int))) ⟨pl, none, none, none, rfl, by simpa using r5⟩ (fun i σ H' hi hp' => ?_) (fun σ H' hp' => ?_)
  · obtain ⟨pl, o1, o2, o3, rfl, r⟩ := hp'
    obtain ⟨y1, s1⟩ := r.st
    refine ⟨_, rfl, (by show 3 ≤ sizeLine; decide), fun p2 hp2 => ?_⟩
    have ra := r.new (o := .lst [.int 2, .int 3, .int 5]) hp2
    obtain ⟨y2, s2⟩ := ra.st
    refine ⟨_, rfl, a, y2, b, 3, rfl, s2, by decide, by decide, fun w1 y3 w10 w11 e3 => ?_⟩
    have rb := ra.take e3
    have pa2 : p2 ≠ a := fun e => by rw [e, s1.1] at hp2; cases hp2
    obtain ⟨u2, hu2, um2, _⟩ := at_mem (xs := [.int 2, .int 3, .int 5]) w10 (by simpa using w11)
    have hsz : ∃ z : Int, u2 = .int z ∧ 2 ≤ z ∧ z ≤ 5 := by
      simp only [List.mem_cons, List.not_mem_nil, or_false] at um2
      rcases um2 with rfl | rfl | rfl <;> exact ⟨_, rfl, by decide, by decide⟩
    obtain ⟨z, rfl, z0, z1⟩ := hsz
    refine ⟨p2, _, _, _, rfl, rfl, SqL.of (by rw [upd_ne pa2]; exact upd_same), hu2, ?_⟩
    obtain ⟨y4, s4⟩ := rb.st
    refine ⟨a, y4, b, z, rfl, s4, by omega, by omega, fun w2 y5 w20 w21 e5 => ?_⟩
    have rc := rb.take e5
    refine ⟨_, _, rfl, rfl, ?_⟩
    refine ⟨_, rfl, _, rfl, by omega, by omega, ?_⟩
    have en : ((1 + w2).toNat : Int) = 1 + w2 := by omega
    refine for_range (fun j σ H' => ∃ (pl' : Int) (o3 : Option V), σ = [some (.ref a), some (.ref g), some (.ref f), some (.int pl'), some (.int (0 + (i : Int))), some (.int (1 + w2)), o3] ∧ RI H a g f b H' pl' (20 + 17 * (i : Int) + (j : Int))) ⟨pl, o3, rfl, by simpa using rc⟩ (fun j σ H' hj hp' => ?_) (fun σ H' hp' => ?_)
    · obtain ⟨pl', o3, rfl, r⟩ := hp'
      obtain ⟨row, hrow, z1', z2', z3'⟩ := r.ff
      refine ⟨_, rfl, f, _, rfl, .inl (SqL.of hrow), _, _, rfl, rfl, _, rfl, ?_⟩
      refine ite2 (fun c => ?_) (fun c => ?_)
      · have c' : (((row.map V.int).length : Nat) : Int) < 12 := of_decide_eq_true c
        rw [List.length_map] at c'
        refine ⟨_, rfl, .inl ⟨rfl, _, SqL.of hrow⟩, _, rfl, f, _, _, rfl, rfl, hrow, by rw [List.length_map, sizeLine_eq]; omega, ?_⟩
        refine ⟨_, rfl, _, _, rfl, rfl, pl' + 1, _, rfl, ?_⟩
        have := r.app hrow (by omega) z2' z3'
        rw [Int.natCast_add, ← Int.add_assoc]
        exact this
      · refine ⟨_, rfl, _, _, rfl, rfl, pl' + 1, _, rfl, ?_⟩
        refine r.go (by omega) ?_
        have := r.hi
        rw [Int.natCast_add]; omega
    · obtain ⟨pl', o3, rfl, r⟩ := hp'
      refine ⟨_, rfl, _, _, rfl, rfl, _, rfl, _, rfl, _, rfl, _, rfl, g, _, rfl, .inl (SqL.of r.gg), ?_⟩
      obtain ⟨y6, s6⟩ := r.st
      refine ⟨a, y6, b, _, rfl, s6, by show (0 : Int) < 3; decide, by show (3 : Int) < 1073741824; decide, fun w3 y7 w30 w31 e7 => ?_⟩
      have rd := r.take e7
      obtain ⟨u3, hu3, um3, _⟩ := at_mem (xs := [.int 2, .int 5, .int 12]) w30 (by simpa using w31)
      have hgp : ∃ z : Int, u3 = .int z ∧ 2 ≤ z ∧ z ≤ 12 := by
        simp only [List.mem_cons, List.not_mem_nil, or_false] at um3
        rcases um3 with rfl | rfl | rfl <;> exact ⟨_, rfl, by decide, by decide⟩
      obtain ⟨gp, rfl, g0, g1⟩ := hgp
      refine ⟨g, _, _, _, rfl, rfl, SqL.of rd.gg, hu3, ?_⟩
      obtain ⟨y8, s8⟩ := rd.st
      refine ⟨a, y8, b, gp, rfl, s8, by omega, by omega, fun w4 y9 w40 w41 e9 => ?_⟩
      have re := rd.take e9
      refine ⟨_, _, rfl, rfl, _, _, _, _, rfl, re.go (by omega) ?_⟩
      have := r.hi
      rw [en] at this
      rw [Int.natCast_add]; omega
  · obtain ⟨pl, o1, o2, o3, rfl, r⟩ := hp'
    obtain ⟨row, hrow, z1', z2', z3'⟩ := r.ff
    obtain ⟨y1, s1⟩ := r.st
    refine ⟨_, rfl, f, _, rfl, .inl ⟨SqL.of hrow, fun l hl => ?_⟩⟩
    refine q l row _ y1 (r.kp.same (same_new hl _)) (s1.same (same_new hl _)) upd_same ⟨z1', z2', fun p hp => ⟨(z3' p hp).1, ?_⟩⟩
    have h1 := (z3' p hp).2
    have h2 := r.hi
    have h3 : ((v3.toNat : Nat) : Int) ≤ 5 := by omega
    omega
end
end K34
end
section
namespace K34
open PySem PySem.Spec PyProof.Rows L2
set_option maxHeartbeats 4000000
set_option Elab.async false
set_option linter.unusedVariables false
structure Far (row : List Int) : Prop where
  len : row.length ≤ 12
  up : row.Pairwise (· < ·)
  bd : ∀ p ∈ row, -1000000000 ≤ p ∧ p ≤ 1000000000
theorem map_ints (ns : List Int) (h : Int → Int) : (List.range ns.length).map (fun i => V.int (h (ns.getD i 0))) = (ns.map h).map V.int := by
  apply List.ext_getElem?
  intro i
  rw [List.getElem?_map, List.getElem?_map, List.getElem?_map]
  by_cases c : i < ns.length
  · rw [List.getElem?_range c, List.getElem?_eq_getElem c]
    show some (V.int (h (ns.getD i 0))) = some (V.int (h ns[i]))
    rw [List.getD_eq_getElem?_getD, List.getElem?_eq_getElem c]
    rfl
  · rw [List.getElem?_eq_none (by simpa using c), List.getElem?_eq_none (by omega)]
    rfl
theorem far_one {row : List Int} {far : Int} (h : RowOk row) (hf : far = 999999700 ∨ far = -999999700) : Far (row.map fun p => p + far) := by
  refine ⟨by rw [List.length_map]; exact h.len, ?_, fun p hp => ?_⟩
  · rw [List.pairwise_map]
    exact h.up.imp fun {a b} z => by omega
  · obtain ⟨y, hy, rfl⟩ := List.mem_map.mp hp
    have := h.bd y hy
    omega
theorem far_two {row : List Int} {far : Int} (k : Nat) (h : RowOk row) (hf : far = 100000000 ∨ far = 500000000) : Far (((row.take k).map fun p => p - far) ++ (row.drop k).map fun p => p + far) := by
  have up : (row.take k ++ row.drop k).Pairwise (· < ·) := by rw [List.take_append_drop]; exact h.up
  obtain ⟨u1, u2, u3⟩ := List.pairwise_append.mp up
  refine ⟨?_, ?_, fun p hp => ?_⟩
  · rw [List.length_append, List.length_map, List.length_map, List.length_take, List.length_drop]
    have := h.len
    omega
  · refine List.pairwise_append.mpr ⟨?_, ?_, fun x hx y hy => ?_⟩
    · rw [List.pairwise_map]; exact u1.imp fun {a b} z => by omega
    · rw [List.pairwise_map]; exact u2.imp fun {a b} z => by omega
    · obtain ⟨x', hx', rfl⟩ := List.mem_map.mp hx
      obtain ⟨y', hy', rfl⟩ := List.mem_map.mp hy
      have := u3 x' hx' y' hy'
      omega
  · rcases List.mem_append.mp hp with z | z
    · obtain ⟨y, hy, rfl⟩ := List.mem_map.mp z
      have := h.bd y (List.mem_of_mem_take hy)
      omega
    · obtain ⟨y, hy, rfl⟩ := List.mem_map.mp z
      have := h.bd y (List.mem_of_mem_drop hy)
      omega
noncomputable def spFar : Sp := fun vs H Q _ => ∃ (a t : Addr) (x : Int) (b : Bool) (row : List Int), vs = [.ref a, .ref t] ∧ StAt H a x b ∧ H t = some (.tup (row.map V.int)) ∧ RowOk row ∧
  ∀ (r : Addr) (row2 : List Int) (H' : Hp) (x' : Int), Keep a H H' → StAt H' a x' b → H' r = some (.tup (row2.map V.int)) → Far row2 → Q (.ref r) H'
section
variable {P : Program} {w : World} {K : PySem.W.Frag} {mg : Str → Option Value} {base : Heap}
set_option maxRecDepth 100000 in
theorem ok_L_far {f : Addr} {fd : FuncData} (F : Fun K "_law_far" "_law_far" s_L_far f fd) (nb : Nb mg) (h_L_take : Has P w K mg base 1 "_law_take" ["_law_state_here", "_law_many"] (spTake K))  :
    FnOk P w K mg base CX0 2 f fd ["_law_state_here", "_law_row_here"] spFar := by
  have nd := sc_L_far.nd
  refine F.ok (k := 1) sc_L_far (fun vs H Q E h => ?_) (fun cdv A outer s H vs Q E hr h => ?_)
  · obtain ⟨a, t, x, b, row, rfl, _⟩ := h
    rfl
  obtain ⟨a, t, x, b, row, rfl, hS, ht, ro, q⟩ := h
  refine ⟨_, (pss_cons (ps_set (i := 2) nd rfl (Or.inl rfl) (pe_def h_L_take hr (pa_cons (pv 0) (pa_cons pe_int pa_nil))))
  (pss_cons (ps_set (i := 3) nd rfl (Or.inr rfl) (pe_ix ix_list (pe_lst (pa_cons (pe_op op_sub (pe_op op_pow pe_int pe_int) pe_int) (pa_cons (pe_op op_sub pe_int (pe_op op_pow pe_int pe_int)) (pa_cons (pe_op op_pow pe_int pe_int) (pa_cons (pe_op op_mul pe_int (pe_op op_pow pe_int pe_int)) pa_nil))))) (pv 2) (fun _ _ => rfl)))
  (pss_cons (ps_if (pt_cmpR op_lt (pv 2) pe_int (nomark _))
   (pss_one (ps_ret (pe_callTy call_tuple_of rfl nb.tuple boot_tuple (pa_cons (pe_comp1 (sc := defScope s_L_far) (N0 := ["_law_state_here", "_law_row_here", "_law_kind", "_law_far_here", "_law_at"]) (N := ["_law_far_here"]) (js := [3]) rfl rfl rfl (by exact ⟨rfl, by decide +kernel, by decide +kernel, by decide +kernel, rfl, rfl, by decide, by decide +kernel, by decide +kernel⟩) rfl
     (pi_tup (pv 1))
     (fun _ _ _ _ _ => by exact pts_nil)
     (fun _ _ _ _ _ => by exact (pe_op op_add (pv 0) (pv 1)))) pa_nil))))
   pss_nil)
  (pss_cons (ps_set (i := 4) nd rfl (Or.inl rfl) (pe_def h_L_take hr (pa_cons (pv 0) (pa_cons (pe_op op_add (pe_callB call_len_seq rfl nb.len PySem.boot_len (pa_cons (pv 1) pa_nil)) pe_int) pa_nil))))
  (pss_one (ps_ret (pe_callTy call_tuple_of rfl nb.tuple boot_tuple (pa_cons (pe_op op_cat (pe_comp1 (sc := defScope s_L_far) (N0 := ["_law_state_here", "_law_row_here", "_law_kind", "_law_far_here", "_law_at"]) (N := ["_law_far_here"]) (js := [3]) rfl rfl rfl (by exact ⟨rfl, by decide +kernel, by decide +kernel, by decide +kernel, rfl, rfl, by decide, by decide +kernel, by decide +kernel⟩) rfl
     (pi_tup (pe_slice sl_tupA (pv 1) po_none (po_some (pv 4))))
     (fun _ _ _ _ _ => by exact pts_nil)
     (fun _ _ _ _ _ => by exact (pe_op op_sub (pv 0) (pv 1)))) (pe_comp1 (sc := defScope s_L_far) (N0 := ["_law_state_here", "_law_row_here", "_law_kind", "_law_far_here", "_law_at"]) (N := ["_law_far_here"]) (js := [3]) rfl rfl rfl (by exact ⟨rfl, by decide +kernel, by decide +kernel, by decide +kernel, rfl, rfl, by decide, by decide +kernel, by decide +kernel⟩) rfl
     (pi_tup (pe_slice sl_tupA (pv 1) (po_some (pv 4)) po_none))
     (fun _ _ _ _ _ => by exact pts_nil)
     (fun _ _ _ _ _ => by exact (pe_op op_add (pv 0) (pv 1))))) pa_nil)))))))), ?_⟩
  refine ⟨_, rfl, a, x, b, 4, rfl, hS, by decide, by decide, fun kd x1 k0 k1 d1 => ?_⟩
  have ta : t ≠ a := ne_of ht hS.1 (by intro z; cases z)
  have kp1 := keep_upd a H (.lst [.int x1, .bl b])
  have st1 : StAt (upd H a (.lst [.int x1, .bl b])) a x1 b := StAt.upd d1
  have ht1 := kp1 _ _ ta ht
  generalize upd H a (.lst [.int x1, .bl b]) = H1 at kp1 st1 ht1 ⊢
  refine ⟨_, _, rfl, rfl, ⟨by decide, by decide, by decide⟩, _, _, rfl, rfl, _, _, rfl, rfl, ⟨by decide, by decide, by decide⟩, _, _, rfl, rfl, _, _, rfl, rfl, ⟨by decide, by decide, by decide⟩, _, _, rfl, rfl, ⟨by decide, by decide, by decide⟩, _, _, rfl, rfl, .inl ⟨by decide, by decide⟩, (by show 4 ≤ sizeLine; decide), fun p hp => ?_⟩
  obtain ⟨u, hu, um, ui⟩ := at_mem (xs := [V.int 999999700, V.int (-999999700), V.int 100000000, V.int 500000000]) k0 (by simpa using k1)
  have hfar : ∃ far : Int, u = .int far ∧ (kd < 2 → far = 999999700 ∨ far = -999999700) ∧ (¬ kd < 2 → far = 100000000 ∨ far = 500000000) := by
    have hk : kd = 0 ∨ kd = 1 ∨ kd = 2 ∨ kd = 3 := by omega
    rcases hk with rfl | rfl | rfl | rfl
    · cases ui; exact ⟨_, rfl, fun _ => .inl rfl, fun z => absurd (by decide) z⟩
    · cases ui; exact ⟨_, rfl, fun _ => .inr rfl, fun z => absurd (by decide) z⟩
    · cases ui; exact ⟨_, rfl, fun z => absurd z (by decide), fun _ => .inl rfl⟩
    · cases ui; exact ⟨_, rfl, fun z => absurd z (by decide), fun _ => .inr rfl⟩
  obtain ⟨far, rfl, f1, f2⟩ := hfar
  refine ⟨_, rfl, p, _, _, _, rfl, rfl, SqL.of upd_same, hu, ?_⟩
  have s2 := same_new hp (.lst [.int 999999700, .int (-999999700), .int 100000000, .int 500000000])
  have kp2 := kp1.same s2
  have st2 := st1.same s2
  have ht2 := s2 _ _ ht1
  have s2' : Same H1 (upd H1 p (.lst [.int ((10 : Int) ^ (9 : Int).toNat - 300), .int (300 - (10 : Int) ^ (9 : Int).toNat), .int ((10 : Int) ^ (8 : Int).toNat), .int (5 * (10 : Int) ^ (8 : Int).toNat)])) := same_new hp _
  refine ⟨_, rfl, _, _, rfl, rfl, _, rfl, ?_⟩
  refine ite2 (fun c => ?_) (fun c => ?_)
  · have c' : kd < 2 := of_decide_eq_true c
    refine ⟨_, rfl, t, rfl, ⟨_, SqT.of (s2' _ _ ht1)⟩, fun D hD => ?_⟩
    refine comp_go row.length (by rw [sizeLine_eq]; have := ro.len; omega) (fun i => .int (row.getD i 0 + far)) (fun σ => ∃ o1, σ = [o1, some (.int far)]) _ hD (by exact ⟨_, rfl⟩) (by have := items_tup (K := K) (s2' _ _ ht1); rw [List.length_map] at this; exact this) (fun i z σ' H2 hi s3 im hσ R hR => ?_) (fun H' s' hD' => ?_)
    · obtain ⟨o1, rfl⟩ := hσ
      obtain ⟨v, rfl, ev⟩ := int_at im
      exact ⟨_, rfl, _, rfl, _, _, rfl, rfl, hR _ _ _ ⟨_, rfl⟩ (Same.refl _) (by rw [ev])⟩
    · rw [map_ints row (fun z => z + far)] at hD'
      refine ⟨D, _, rfl, .inl ⟨SqL.of hD', fun l hl => ?_⟩⟩
      have s5 := same_new hl (.tup ((row.map fun z => z + far).map V.int))
      exact q l (row.map fun z => z + far) _ x1 (kp1.same (s2'.trans (s'.trans s5))) (st1.same (s2'.trans (s'.trans s5))) upd_same (far_one ro (f1 c'))
  · have c' : ¬ kd < 2 := of_decide_eq_false (Bool.eq_false_iff.mpr c)
    have kp3 := kp1.same s2'
    have st3 := st1.same s2'
    have ht3 := s2' _ _ ht1
    have rl : ((row.map V.int).length : Int) ≤ 12 := by rw [List.length_map]; have := ro.len; omega
    refine ⟨_, rfl, _, rfl, t, _, rfl, .inr (SqT.of ht3), _, _, rfl, rfl, a, x1, b, _, rfl, st3, by omega, by omega, fun at' x4 a0 a1 d4 => ?_⟩
    have kp4 := kp3.trans (keep_upd a _ (.lst [.int x4, .bl b]))
    have st4 : StAt (upd (upd H1 p (.lst [.int ((10 : Int) ^ (9 : Int).toNat - 300), .int (300 - (10 : Int) ^ (9 : Int).toNat), .int ((10 : Int) ^ (8 : Int).toNat), .int (5 * (10 : Int) ^ (8 : Int).toNat)])) a (.lst [.int x4, .bl b])) a x4 b := StAt.upd d4
    have ht4 := keep_upd a _ (.lst [.int x4, .bl b]) _ _ ta ht3
    have ea : at' = ((at'.toNat : Nat) : Int) := by omega
    refine ⟨_, rfl, _, rfl, _, rfl, t, _, rfl, ht4, fun p1 H5 s5 hp1 => ?_⟩
    rw [ea, cut_to, ← List.map_take] at hp1
    refine ⟨p1, rfl, ⟨_, SqT.of hp1⟩, fun D1 hD1 => ?_⟩
    have l1 : (row.take at'.toNat).length ≤ 12 := by rw [List.length_take]; have := ro.len; omega
    have l2 : (row.drop at'.toNat).length ≤ 12 := by rw [List.length_drop]; have := ro.len; omega
    refine comp_go (row.take at'.toNat).length (by rw [sizeLine_eq]; omega) (fun i => .int ((row.take at'.toNat).getD i 0 - far)) (fun σ => ∃ o1, σ = [o1, some (.int far)]) _ hD1 (by exact ⟨_, rfl⟩) (by have := items_tup (K := K) hp1; rw [List.length_map] at this; exact this) (fun i z σ' H2 hi s3 im hσ R hR => ?_) (fun H6 s6 hD6 => ?_)
    · obtain ⟨o1, rfl⟩ := hσ
      obtain ⟨v, rfl, ev⟩ := int_at im
      exact ⟨_, rfl, _, rfl, _, _, rfl, rfl, hR _ _ _ ⟨_, rfl⟩ (Same.refl _) (by rw [ev])⟩
    rw [map_ints (row.take at'.toNat) (fun z => z - far)] at hD6
    refine ⟨_, rfl, _, rfl, _, rfl, t, _, rfl, s6 _ _ (s5 _ _ ht4), fun p2 H7 s7 hp2 => ?_⟩
    rw [ea, cut_from, ← List.map_drop] at hp2
    refine ⟨p2, rfl, ⟨_, SqT.of hp2⟩, fun D2 hD2 => ?_⟩
    refine comp_go (row.drop at'.toNat).length (by rw [sizeLine_eq]; omega) (fun i => .int ((row.drop at'.toNat).getD i 0 + far)) (fun σ => ∃ o1, σ = [o1, some (.int far)]) _ hD2 (by exact ⟨_, rfl⟩) (by have := items_tup (K := K) hp2; rw [List.length_map] at this; exact this) (fun i z σ' H2 hi s3 im hσ R hR => ?_) (fun H8 s8 hD8 => ?_)
    · obtain ⟨o1, rfl⟩ := hσ
      obtain ⟨v, rfl, ev⟩ := int_at im
      exact ⟨_, rfl, _, rfl, _, _, rfl, rfl, hR _ _ _ ⟨_, rfl⟩ (Same.refl _) (by rw [ev])⟩
    rw [map_ints (row.drop at'.toNat) (fun z => z + far)] at hD8
    have l3 : (((row.take at'.toNat).map fun z => z - far).map V.int).length + (((row.drop at'.toNat).map fun z => z + far).map V.int).length ≤ sizeLine := by
      rw [List.length_map, List.length_map, List.length_map, List.length_map, sizeLine_eq]; omega
    refine ⟨D1, D2, _, _, rfl, rfl, s8 _ _ (s7 _ _ hD6), hD8, l3, fun r hr' => ?_⟩
    refine ⟨r, _, rfl, .inl ⟨SqL.of upd_same, fun l hl => ?_⟩⟩
    have s9 := s5.trans (s6.trans (s7.trans (s8.trans ((same_new hr' _).trans (same_new hl (.tup (((row.take at'.toNat).map fun z => z - far).map V.int ++ ((row.drop at'.toNat).map fun z => z + far).map V.int)))))))
    exact q l (((row.take at'.toNat).map fun z => z - far) ++ (row.drop at'.toNat).map fun z => z + far) _ x4 (kp4.same s9) (st4.same s9) (by rw [upd_same, List.map_append]) (far_two at'.toNat ro (f2 c'))
end
end K34
end
section
namespace K34
open PySem PySem.Spec PyProof.Rows L2
set_option maxHeartbeats 4000000
set_option Elab.async false
set_option linter.unusedVariables false
noncomputable def spNeed : Sp := fun vs H Q _ => ∃ v lo hi : Int, vs = [.int v, .int lo, .int hi] ∧ lo ≤ v ∧ v ≤ hi ∧ Q .non H
noncomputable def spMir : Sp := fun vs H Q _ => ∃ (a : Addr) (ns : List Int), vs = [.ref a] ∧ H a = some (.tup (ns.map V.int)) ∧ ns.length ≤ 1000 ∧ ∀ (r : Addr) (H' : Hp), Same H H' → H' r = some (.tup ((BB.mir ns).map V.int)) → Q (.ref r) H'
noncomputable abbrev Ok (ns : List Int) (k : Nat) : Prop := BB.Rw ns k (-4000000000) 4000000000 ∧ k ≤ 12
noncomputable def spCarry : Sp := fun vs H Q _ => ∃ (a : Addr) (ns : List Int) (k z : Nat), vs = [.ref a, .int (z : Int)] ∧ H a = some (.tup (ns.map V.int)) ∧ Ok ns k ∧
  ∀ (r p : Addr) (H' : Hp), Same H H' → H' r = some (.tup ((BB.step z ns).map V.int)) → H' p = some (.tup [.ref r, .int ((BB.taken z ns : Nat) : Int)]) → Q (.ref p) H'
noncomputable def spBack : Sp := fun vs H Q _ => ∃ (a : Addr) (ns : List Int) (k z : Nat), vs = [.ref a, .int (z : Int)] ∧ H a = some (.tup (ns.map V.int)) ∧ Ok ns k ∧
  ∀ (r : Addr) (H' : Hp), Same H H' → H' r = some (.tup ((BB.unstep z ns).map V.int)) → Q (.ref r) H'
noncomputable def spCar : Sp := fun vs H Q _ => ∃ (a : Addr) (ns : List Int) (k : Nat), vs = [.ref a] ∧ H a = some (.tup (ns.map V.int)) ∧ Ok ns k ∧
  ∀ (r : Addr) (H' : Hp), Same H H' → H' r = some (.tup ((BB.step k ns).map V.int)) → Q (.ref r) H'
noncomputable def spUnd : Sp := fun vs H Q _ => ∃ (a : Addr) (ns : List Int) (k : Nat), vs = [.ref a] ∧ H a = some (.tup (ns.map V.int)) ∧ Ok ns k ∧
  ∀ (r : Addr) (H' : Hp), Same H H' → H' r = some (.tup ((BB.unstep k ns).map V.int)) → Q (.ref r) H'
theorem num_true {lo hi v : Int} (h1 : lo ≤ v) (h2 : v ≤ hi) : numB lo hi (.int v) = true := by
  show (decide (lo ≤ v) && decide (v ≤ hi)) = true
  rw [decide_eq_true h1, decide_eq_true h2]
  rfl
theorem head_rd {K : PySem.W.Frag} {a : Addr} {ns : List Int} {H : Hp} {σ : L2.St} {Q : VK} (h0 : σ[0]? = some (some (.ref a))) (ha : H a = some (.tup (ns.map V.int))) (q : Q (.int (ns.headD 0)) H) :
    tIf (fun σ H Q => tVar 0 σ H fun x H' => ∃ k, TruV K x H' k ∧ Q k H') (tOp (rIxT K) (tVar 0) (tC (.int 0))) (tC (.int 0)) σ H Q := by
  refine ⟨_, h0, !(ns.map V.int).isEmpty, .inr (.inl ⟨_, SqT.of ha, rfl⟩), ?_⟩
  cases ns with
  | nil => exact iteF q
  | cons p r => exact iteT ⟨_, h0, a, _, _, _, rfl, rfl, SqT.of ha, (show atI ((p :: r).map V.int) ((0 : Nat) : Int) = some (.int p) from atI_nat rfl), q⟩
section
variable {P : Program} {w : World} {K : PySem.W.Frag} {mg : Str → Option Value} {base : Heap}
set_option maxRecDepth 100000 in
theorem ok_need_number {f : Addr} {fd : FuncData} (F : Fun K "need_number" "need_number" s_need_number f fd) (nb : Nb2 mg) (h_is_number : Has P w K mg base 1 "is_number" ["thing", "least", "greatest"] spNum)  :
    FnOk P w K mg base CX0 2 f fd ["thing", "least", "greatest"] spNeed := by
  have nd := sc_need_number.nd
  refine F.ok (k := 1) sc_need_number (fun vs H Q E h => ?_) (fun cdv A outer s H vs Q E hr h => ?_)
  · obtain ⟨v, lo, hi, rfl, _⟩ := h
    rfl
  obtain ⟨v, lo, hi, rfl, h1, h2, q⟩ := h
  refine ⟨_, (pss_one (ps_if (pt_not (pt_truth (pe_def h_is_number hr (pa_cons (pv 0) (pa_cons (pv 1) (pa_cons (pv 2) pa_nil)))) (fun _ => rfl)))
(pss_one ps_never)
pss_nil)), ?_⟩
  refine ⟨_, rfl, _, rfl, _, rfl, .int v, "int", lo, hi, rfl, .int v, _, rfl, ?_⟩
  rw [num_true h1 h2]
  exact iteF q
set_option maxRecDepth 100000 in
theorem ok_mirrored {f : Addr} {fd : FuncData} (F : Fun K "mirrored" "mirrored" s_mirrored f fd) (nb : Nb2 mg)   :
    FnOk P w K mg base CX0 1 f fd ["row"] spMir := by
  have nd := sc_mirrored.nd
  refine F.ok (k := 0) sc_mirrored (fun vs H Q E h => ?_) (fun cdv A outer s H vs Q E hr h => ?_)
  · obtain ⟨a, ns, rfl, _⟩ := h
    rfl
  obtain ⟨a, ns, rfl, ha, hl, q⟩ := h
  refine ⟨_, (pss_one (ps_ret (pe_callTy call_tuple_of rfl nb.tuple boot_tuple (pa_cons (pe_comp1 (sc := defScope s_mirrored) (N0 := ["row"]) (N := []) (js := []) rfl rfl rfl (by exact ⟨rfl, by decide +kernel, by decide +kernel, by decide +kernel, rfl, rfl, by decide, by decide +kernel, by decide +kernel⟩) rfl
(pi_rev rfl nb.rev (pa_cons (pv 0) pa_nil))
(fun _ _ _ _ _ => by exact pts_nil)
(fun _ _ _ _ _ => by exact (pe_un un_neg (pv 0)))) pa_nil)))), ?_⟩
  refine ⟨_, rfl, a, _, rfl, SqT.of ha, fun D hD => ?_⟩
  refine comp_go (ns.map V.int).length (by rw [List.length_map, sizeLine_eq]; omega) (fun i => .int (-(ns.reverse.getD i 0))) (fun σ => ∃ o1, σ = [o1]) _ hD (by exact ⟨_, rfl⟩) (items_rev ha) (fun i x σ' H2 hi s2 im hσ R hR => ?_) (fun H' s' hD' => ?_)
  · obtain ⟨o1, rfl⟩ := hσ
    rw [← List.map_reverse] at im
    obtain ⟨v, rfl, ev⟩ := int_at im
    exact ⟨_, rfl, _, rfl, hR _ _ _ ⟨_, rfl⟩ (Same.refl _) (by rw [ev])⟩
  · rw [List.length_map, ← List.length_reverse, map_ints ns.reverse (fun z => -z)] at hD'
    exact ⟨D, _, rfl, .inl ⟨SqL.of hD', fun l hl => q l _ (s'.trans (same_new hl _)) upd_same⟩⟩
set_option maxRecDepth 100000 in
theorem ok_carry {f : Addr} {fd : FuncData} (F : Fun K "carry" "carry" s_carry f fd) (nb : Nb2 mg)   :
    FnOk P w K mg base CX0 1 f fd ["row", "size"] spCarry := by
  have nd := sc_carry.nd
  refine F.ok (k := 0) sc_carry (fun vs H Q E h => ?_) (fun cdv A outer s H vs Q E hr h => ?_)
  · obtain ⟨a, ns, k, z, rfl, _⟩ := h
    rfl
  obtain ⟨a, ns, k, z, rfl, ha, ok, q⟩ := h
  refine ⟨_, (pss_cons (ps_set (i := 2) nd rfl (Or.inl rfl) (pe_lst pa_nil))
(pss_cons (ps_set (i := 3) nd rfl (Or.inl rfl) pe_int)
(pss_cons (ps_set (i := 4) nd rfl (Or.inl rfl) pe_int)
(pss_cons (ps_set (i := 5) nd rfl (Or.inl rfl) (pe_ifExp (pt_truth (pv 0) (fun _ => rfl)) (pe_ix ix_tup (pv 0) pe_int (fun _ _ => rfl)) pe_int))
(pss_cons (ps_for PassesOwn.never rfl (pi_tup (pv 0)) (pg_name (i := 6) nd rfl (Or.inl rfl))
(pss_cons (ps_set (i := 7) nd rfl (Or.inl rfl) (pe_callB (call_min2 rfl) rfl nb.min boot_min (pa_cons (pv 3) (pa_cons (pe_op op_sub (pv 6) (pv 5)) pa_nil))))
(pss_cons (ps_expr (pe_bm PySem.F.plainAttrs_list PySem.F.slot_list_extend PySem.F.type_list_extend mt_extend (pv 2) (pa_cons (pe_callTy (call_list_rng rfl) rfl nb.list boot_list (pa_cons (pe_callTy call_rng2 rfl nb.range boot_range (pa_cons (pv 5) (pa_cons (pe_op op_add (pv 5) (pv 7)) pa_nil))) pa_nil)) pa_nil)))
(pss_cons (ps_aug (i := 3) nd rfl (Or.inl rfl) (pv 7) ip_sub)
(pss_cons (ps_if (pt_cmpR op_lt (pv 3) (pv 1) (nomark _))
(pss_cons (ps_aug (i := 3) nd rfl (Or.inl rfl) pe_int ip_add)
(pss_one (ps_aug (i := 4) nd rfl (Or.inl rfl) pe_int ip_add)))
(pss_one (ps_expr (pe_bm PySem.F.plainAttrs_list PySem.F.slot_list_append PySem.F.type_list_append mt_append (pv 2) (pa_cons (pv 6) pa_nil)))))
(pss_one (ps_set (i := 5) nd rfl (Or.inl rfl) (pe_op op_add (pv 6) pe_int))))))))
(pss_cons (ps_expr (pe_bm PySem.F.plainAttrs_list PySem.F.slot_list_extend PySem.F.type_list_extend mt_extend (pv 2) (pa_cons (pe_callTy (call_list_rng rfl) rfl nb.list boot_list (pa_cons (pe_callTy call_rng2 rfl nb.range boot_range (pa_cons (pv 5) (pa_cons (pe_op op_add (pv 5) (pv 3)) pa_nil))) pa_nil)) pa_nil)))
(pss_one (ps_ret (pe_tup (pa_cons (pe_callTy call_tuple_of rfl nb.tuple boot_tuple (pa_cons (pv 2) pa_nil)) (pa_cons (pv 4) pa_nil))))))))))), ?_⟩
  obtain ⟨rw_, k12⟩ := ok
  refine ⟨(by show 0 ≤ sizeLine; decide), fun f hf => ?_⟩
  have s1 := same_new hf (.lst [])
  refine head_rd (K := K) rfl (s1 _ _ ha) ?_
  have hb0 : -4000000000 ≤ ns.headD 0 ∧ ns.headD 0 ≤ 4000000000 ∧ ∀ p ∈ ns, ns.headD 0 ≤ p := by
    cases ns with
    | nil => exact ⟨by decide, by decide, fun p hp => by cases hp⟩
    | cons p r =>
      have := rw_.bd p (List.mem_cons_self ..)
      refine ⟨this.1, this.2, fun x hx => ?_⟩
      rcases List.mem_cons.mp hx with rfl | hx
      · exact Int.le_refl _
      · exact Int.le_of_lt ((List.pairwise_cons.mp rw_.up).1 x hx)
  refine ⟨_, rfl, a, rfl, ⟨_, SqT.of (s1 _ _ ha)⟩, ?_⟩
  refine for_tup (xs := ns.map V.int) (fun i σ H' => ∃ (bh : List Int) (L : Nat) (l t box : Int) (o6 o7 : Option V), σ = [some (.ref a), some (.int (z : Int)), some (.ref f), some (.int l), some (.int t), some (.int box), o6, o7] ∧ l = (L : Int) ∧ Same H H' ∧ H' f = some (.lst (bh.map V.int)) ∧
      bh ++ BB.sp z L box (ns.drop i) = BB.step z ns ∧ (∃ tn : Nat, t = (tn : Int) ∧ tn + BB.tkn z L box (ns.drop i) = BB.taken z ns) ∧ bh.length + L = i ∧ (∀ p ∈ ns.drop i, box ≤ p) ∧ -4000000000 ≤ box ∧ box ≤ 4000000001) ?_ (fun i σ H' _ hp => ?_) (fun i x σ H' hxi hp => ?_) (fun σ H' hp => ?_)
  · exact ⟨[], 0, _, _, _, _, _, rfl, rfl, s1, upd_same, rfl, ⟨0, rfl, Nat.zero_add _⟩, rfl, hb0.2.2, hb0.1, by omega⟩
  · obtain ⟨bh, L, l, t, box, o6, o7, rfl, el, sm, hfh, _⟩ := hp
    exact SqT.of (sm _ _ ha)
  · obtain ⟨bh, L, l, t, box, o6, o7, rfl, el, sm, hfh, eq, ⟨tn, et, tq⟩, cnt, ge, b1, b2⟩ := hp
    have hil : i < ns.length := by
      have := (List.getElem?_eq_some_iff.mp hxi).1
      simpa using this
    have k1 := rw_.len
    obtain ⟨p, rfl, ep⟩ := int_at hxi
    have edr : ns.drop i = p :: ns.drop (i + 1) := by
      rw [List.drop_eq_getElem_cons hil]
      have : ns[i] = p := by rw [← ep, List.getD_eq_getElem?_getD, List.getElem?_eq_getElem hil]; rfl
      rw [this]
    have hbp : box ≤ p := ge p (by rw [edr]; exact List.mem_cons_self ..)
    have pb := rw_.bd p (List.mem_of_mem_drop (by rw [edr]; exact List.mem_cons_self .. : p ∈ ns.drop i))
    rw [edr] at eq tq
    unfold BB.sp at eq
    unfold BB.tkn at tq
    have em : (if p - box < l then p - box else l) = ((min L (p - box).toNat : Nat) : Int) := by
      rw [el]
      exact BB.load_gap (Int.sub_nonneg_of_le hbp)
    generalize hm : min L (p - box).toNat = m at eq em tq
    refine ⟨_, rfl, _, rfl, _, rfl, _, _, rfl, rfl, _, _, rfl, ?_⟩
    refine ⟨_, rfl, .inl ⟨rfl, _, SqL.of hfh⟩, _, rfl, _, rfl, _, rfl, _, _, rfl, rfl, _, _, rfl, fun p1 hp1 => ?_⟩
    refine ⟨p1, _, _, rfl, upd_same, ⟨by omega, by omega, by omega, by omega⟩, by rw [sizeLine_eq]; omega, fun l1 hl1 => ?_⟩
    rw [em] at hl1 ⊢
    have en : (box + (m : Int) - box).toNat = m := by omega
    rw [en]
    have s3 := (same_new hp1 (.rng box (box + (m : Int)))).trans (same_new hl1 (.lst ((ups box m).map V.int)))
    have hl1' : (upd (upd H' p1 (.rng box (box + (m : Int)))) l1 (.lst ((ups box m).map V.int))) l1 = some (.lst ((ups box m).map V.int)) := upd_same
    have hf1 := s3 _ _ hfh
    have sm3 := sm.trans s3
    generalize upd (upd H' p1 (.rng box (box + (m : Int)))) l1 (.lst ((ups box m).map V.int)) = H3 at s3 hl1' hf1 sm3 ⊢
    have lup : (ups box m).length = m := ups_length ..
    have mle : m ≤ L := by omega
    refine ⟨f, l1, _, _, rfl, rfl, hf1, hl1', by rw [List.length_map, List.length_map, lup, sizeLine_eq]; omega, ?_⟩
    have hf4 : (upd H3 f (.lst (bh.map V.int ++ (ups box m).map V.int))) f = some (.lst ((bh ++ ups box m).map V.int)) := by rw [upd_same, List.map_append]
    have sm4 : Same H (upd H3 f (.lst (bh.map V.int ++ (ups box m).map V.int))) := fun b o hb => by rw [upd_ne (ne_of_none hb hf)]; exact sm3 b o hb
    generalize upd H3 f (.lst (bh.map V.int ++ (ups box m).map V.int)) = H4 at hf4 sm4 ⊢
    refine ⟨_, rfl, _, rfl, _, _, rfl, rfl, ?_⟩
    have ll : l - (m : Int) = ((L - m : Nat) : Int) := by omega
    refine ⟨_, rfl, _, rfl, _, _, rfl, rfl, _, rfl, ?_⟩
    have nge : ∀ x ∈ ns.drop (i + 1), p + 1 ≤ x := fun x hx => by
      have up2 : (p :: ns.drop (i + 1)).Pairwise (· < ·) := by rw [← edr]; exact rw_.up.sublist (List.drop_sublist ..)
      have := (List.pairwise_cons.mp up2).1 x hx
      omega
    refine ite2 (fun c => ?_) (fun c => ?_)
    · have c' : l - (m : Int) < (z : Int) := of_decide_eq_true c
      rw [if_pos (by omega), ← List.append_assoc] at eq
      rw [if_pos (by omega)] at tq
      refine ⟨_, rfl, _, _, rfl, rfl, _, rfl, _, _, rfl, rfl, _, rfl, _, _, rfl, rfl, ?_⟩
      exact ⟨bh ++ ups box m, L - m + 1, _, _, _, _, _, rfl, (by show l - (m : Int) + 1 = _; omega), sm4, hf4, eq, ⟨tn + 1, (by show t + 1 = _; omega), by omega⟩, by rw [List.length_append, lup]; omega, nge, (by show _ ≤ p + 1; omega), (by show p + 1 ≤ _; omega)⟩
    · have c' : ¬ l - (m : Int) < (z : Int) := of_decide_eq_false (Bool.eq_false_iff.mpr c)
      rw [if_neg (by omega), ← List.append_assoc] at eq
      rw [if_neg (by omega)] at tq
      refine ⟨_, rfl, .inl ⟨rfl, _, SqL.of hf4⟩, _, rfl, f, _, _, rfl, rfl, hf4, by rw [List.length_map, List.length_append, lup, sizeLine_eq]; omega, ?_⟩
      have hf5 : (upd H4 f (.lst ((bh ++ ups box m).map V.int ++ [.int p]))) f = some (.lst ((bh ++ ups box m ++ [p]).map V.int)) := by rw [upd_same, List.map_append (l₂ := [p])]; rfl
      have sm5 : Same H (upd H4 f (.lst ((bh ++ ups box m).map V.int ++ [.int p]))) := fun b o hb => by rw [upd_ne (ne_of_none hb hf)]; exact sm4 b o hb
      refine ⟨_, rfl, _, _, rfl, rfl, ?_⟩
      exact ⟨bh ++ ups box m ++ [p], L - m, _, _, _, _, _, rfl, ll, sm5, hf5, by rw [List.append_assoc]; exact eq, ⟨tn, et, tq⟩, by rw [List.length_append, List.length_append, lup, List.length_singleton]; omega, nge, (by show _ ≤ p + 1; omega), (by show p + 1 ≤ _; omega)⟩
  · obtain ⟨bh, L, l, t, box, o6, o7, rfl, el, sm, hfh, eq, ⟨tn, et, tq⟩, cnt, ge, b1, b2⟩ := hp
    rw [List.length_map] at cnt eq tq
    rw [List.drop_length] at eq tq
    have tq' : tn = BB.taken z ns := tq
    have et' : t = ((BB.taken z ns : Nat) : Int) := by rw [et, tq']
    subst et'
    have k1 := rw_.len
    have eq' : bh ++ ups box L = BB.step z ns := eq
    refine ⟨_, rfl, .inl ⟨rfl, _, SqL.of hfh⟩, _, rfl, _, rfl, _, rfl, _, _, rfl, rfl, _, _, rfl, fun p1 hp1 => ?_⟩
    refine ⟨p1, _, _, rfl, upd_same, ⟨by omega, by omega, by omega, by omega⟩, by rw [sizeLine_eq]; omega, fun l1 hl1 => ?_⟩
    have en : (box + l - box).toNat = L := by omega
    rw [en]
    have s3 := (same_new hp1 (.rng box (box + l))).trans (same_new hl1 (.lst ((ups box L).map V.int)))
    have hl1' : (upd (upd H' p1 (.rng box (box + l))) l1 (.lst ((ups box L).map V.int))) l1 = some (.lst ((ups box L).map V.int)) := upd_same
    have hf1 := s3 _ _ hfh
    have sm3 := sm.trans s3
    generalize upd (upd H' p1 (.rng box (box + l))) l1 (.lst ((ups box L).map V.int)) = H3 at s3 hl1' hf1 sm3 ⊢
    have lup : (ups box L).length = L := ups_length ..
    refine ⟨f, l1, _, _, rfl, rfl, hf1, hl1', by rw [List.length_map, List.length_map, lup, sizeLine_eq]; omega, ?_⟩
    have hf4 : (upd H3 f (.lst (bh.map V.int ++ (ups box L).map V.int))) f = some (.lst ((BB.step z ns).map V.int)) := by rw [upd_same, ← eq', List.map_append]
    have sm4 : Same H (upd H3 f (.lst (bh.map V.int ++ (ups box L).map V.int))) := fun b o hb => by rw [upd_ne (ne_of_none hb hf)]; exact sm3 b o hb
    generalize upd H3 f (.lst (bh.map V.int ++ (ups box L).map V.int)) = H4 at hf4 sm4 ⊢
    refine ⟨_, rfl, f, _, rfl, .inl ⟨SqL.of hf4, fun l2 hl2 => ?_⟩⟩
    refine ⟨_, rfl, (by show 2 ≤ sizeLine; decide), fun p2 hp2 => ?_⟩
    have s5 := same_new hl2 (.tup ((BB.step z ns).map V.int))
    have s6 := same_new hp2 (.tup [.ref l2, .int ((BB.taken z ns : Nat) : Int)])
    exact q l2 p2 _ (sm4.trans (s5.trans s6)) (s6 _ _ upd_same) upd_same
end
end K34
end
section
namespace K34
open PySem PySem.Spec PyProof.Rows L2
set_option maxHeartbeats 4000000
set_option Elab.async false
set_option linter.unusedVariables false
noncomputable def spCb : Sp := fun vs H Q _ => ∃ (a : Addr) (ns : List Int) (k z : Nat), vs = [.ref a, .int (z : Int)] ∧ H a = some (.tup (ns.map V.int)) ∧ Ok ns k ∧ 1 ≤ z ∧ z ≤ 12 ∧
  ∀ (r : Addr) (H' : Hp), Same H H' → H' r = some (.tup ((BB.step z ns).map V.int)) → Q (.ref r) H'
noncomputable def spTb : Sp := fun vs H Q _ => ∃ (a : Addr) (ns : List Int) (k z : Nat), vs = [.ref a, .int (z : Int)] ∧ H a = some (.tup (ns.map V.int)) ∧ Ok ns k ∧ 1 ≤ z ∧ z ≤ 12 ∧
  ∀ (H' : Hp), Same H H' → Q (.int ((BB.taken z ns : Nat) : Int)) H'
section
variable {P : Program} {w : World} {K : PySem.W.Frag} {mg : Str → Option Value} {base : Heap}
set_option maxRecDepth 100000 in
theorem ok_carried_by {f : Addr} {fd : FuncData} (F : Fun K "carried_by" "carried_by" s_carried_by f fd) (nb : Nb2 mg) (h_need_number : Has P w K mg base 2 "need_number" ["thing", "least", "greatest"] spNeed) (h_carry : Has P w K mg base 1 "carry" ["row", "size"] spCarry) (c_GREATEST_SIZE : ∃ u, mg "GREATEST_SIZE" = some u ∧ RelV (.int 12) u) :
    FnOk P w K mg base CX0 3 f fd ["row", "size"] spCb := by
  have nd := sc_carried_by.nd
  refine F.ok (k := 2) sc_carried_by (fun vs H Q E h => ?_) (fun cdv A outer s H vs Q E hr h => ?_)
  · obtain ⟨a, ns, k, z, rfl, _⟩ := h
    rfl
  obtain ⟨a, ns, k, z, rfl, ha, ok, z1, z2, q⟩ := h
  refine ⟨_, (pss_cons (ps_expr (pe_def h_need_number hr (pa_cons (pv 1) (pa_cons pe_int (pa_cons (pe_const c_GREATEST_SIZE) pa_nil)))))
(pss_cons (ps_asg (pe_def h_carry hr (pa_cons (pv 0) (pa_cons (pv 1) pa_nil))) (pg_tup rfl (pgs_cons (pg_name (i := 2) nd rfl (Or.inl rfl)) (pgs_cons (pg_name (i := 3) nd rfl (Or.inl rfl)) pgs_nil))))
(pss_one (ps_ret (pv 2))))), ?_⟩
  refine ⟨_, rfl, _, 1, 12, rfl, by omega, by omega, ?_⟩
  refine ⟨_, rfl, _, rfl, a, ns, k, z, rfl, ha, ok, fun r2 p2 H2 s2 h2 h2' => ?_⟩
  refine ⟨p2, _, rfl, SqT.of h2', rfl, _, _, rfl, _, _, rfl, rfl, ?_⟩
  exact ⟨_, rfl, q r2 H2 s2 h2⟩
set_option maxRecDepth 100000 in
theorem ok_taken_by {f : Addr} {fd : FuncData} (F : Fun K "taken_by" "taken_by" s_taken_by f fd) (nb : Nb2 mg) (h_need_number : Has P w K mg base 2 "need_number" ["thing", "least", "greatest"] spNeed) (h_carry : Has P w K mg base 1 "carry" ["row", "size"] spCarry) (c_GREATEST_SIZE : ∃ u, mg "GREATEST_SIZE" = some u ∧ RelV (.int 12) u) :
    FnOk P w K mg base CX0 3 f fd ["row", "size"] spTb := by
  have nd := sc_taken_by.nd
  refine F.ok (k := 2) sc_taken_by (fun vs H Q E h => ?_) (fun cdv A outer s H vs Q E hr h => ?_)
  · obtain ⟨a, ns, k, z, rfl, _⟩ := h
    rfl
  obtain ⟨a, ns, k, z, rfl, ha, ok, z1, z2, q⟩ := h
  refine ⟨_, (pss_cons (ps_expr (pe_def h_need_number hr (pa_cons (pv 1) (pa_cons pe_int (pa_cons (pe_const c_GREATEST_SIZE) pa_nil)))))
(pss_cons (ps_asg (pe_def h_carry hr (pa_cons (pv 0) (pa_cons (pv 1) pa_nil))) (pg_tup rfl (pgs_cons (pg_name (i := 2) nd rfl (Or.inl rfl)) (pgs_cons (pg_name (i := 3) nd rfl (Or.inl rfl)) pgs_nil))))
(pss_one (ps_ret (pv 3))))), ?_⟩
  refine ⟨_, rfl, _, 1, 12, rfl, by omega, by omega, ?_⟩
  refine ⟨_, rfl, _, rfl, a, ns, k, z, rfl, ha, ok, fun r2 p2 H2 s2 h2 h2' => ?_⟩
  refine ⟨p2, _, rfl, SqT.of h2', rfl, _, _, rfl, _, _, rfl, rfl, ?_⟩
  exact ⟨_, rfl, q H2 s2⟩
set_option maxRecDepth 100000 in
theorem ok_carry_back {f : Addr} {fd : FuncData} (F : Fun K "carry_back" "carry_back" s_carry_back f fd) (nb : Nb2 mg) (h_carry : Has P w K mg base 1 "carry" ["row", "size"] spCarry) (h_mirrored : Has P w K mg base 1 "mirrored" ["row"] spMir)  :
    FnOk P w K mg base CX0 2 f fd ["row", "size"] spBack := by
  have nd := sc_carry_back.nd
  refine F.ok (k := 1) sc_carry_back (fun vs H Q E h => ?_) (fun cdv A outer s H vs Q E hr h => ?_)
  · obtain ⟨a, ns, k, z, rfl, _⟩ := h
    rfl
  obtain ⟨a, ns, k, z, rfl, ha, ok, q⟩ := h
  refine ⟨_, (pss_cons (ps_asg (pe_def h_carry hr (pa_cons (pe_def h_mirrored hr (pa_cons (pv 0) pa_nil)) (pa_cons (pv 1) pa_nil))) (pg_tup rfl (pgs_cons (pg_name (i := 2) nd rfl (Or.inl rfl)) (pgs_cons (pg_name (i := 3) nd rfl (Or.inl rfl)) pgs_nil))))
(pss_one (ps_ret (pe_def h_mirrored hr (pa_cons (pv 2) pa_nil))))), ?_⟩
  obtain ⟨rw_, k12⟩ := ok
  have hl := rw_.len
  refine ⟨_, rfl, a, ns, rfl, ha, by omega, fun r1 H1 s1 h1 => ?_⟩
  have rm : BB.Rw (BB.mir ns) k (-4000000000) 4000000000 := by have := rw_.mir; rw [Int.neg_neg] at this; exact this
  refine ⟨_, rfl, r1, BB.mir ns, k, z, rfl, h1, ⟨rm, k12⟩, fun r2 p2 H2 s2 h2 h2' => ?_⟩
  refine ⟨p2, _, rfl, SqT.of h2', rfl, _, _, rfl, _, _, rfl, rfl, ?_⟩
  have hl2 := (rm.step z).len
  refine ⟨_, rfl, r2, _, rfl, h2, by omega, fun r3 H3 s3 h3 => ?_⟩
  exact q r3 H3 (s1.trans (s2.trans s3)) h3
set_option maxRecDepth 100000 in
theorem ok_carried {f : Addr} {fd : FuncData} (F : Fun K "carried" "carried" s_carried f fd) (nb : Nb2 mg) (h_carry : Has P w K mg base 1 "carry" ["row", "size"] spCarry)  :
    FnOk P w K mg base CX0 2 f fd ["row"] spCar := by
  have nd := sc_carried.nd
  refine F.ok (k := 1) sc_carried (fun vs H Q E h => ?_) (fun cdv A outer s H vs Q E hr h => ?_)
  · obtain ⟨a, ns, k, rfl, _⟩ := h
    rfl
  obtain ⟨a, ns, k, rfl, ha, ok, q⟩ := h
  refine ⟨_, (pss_cons (ps_asg (pe_def h_carry hr (pa_cons (pv 0) (pa_cons (pe_callB call_len_seq rfl nb.len PySem.boot_len (pa_cons (pv 0) pa_nil)) pa_nil))) (pg_tup rfl (pgs_cons (pg_name (i := 1) nd rfl (Or.inl rfl)) (pgs_cons (pg_name (i := 2) nd rfl (Or.inl rfl)) pgs_nil))))
(pss_one (ps_ret (pv 1)))), ?_⟩
  have hl : (ns.map V.int).length = k := by rw [List.length_map]; exact ok.1.len
  refine ⟨_, rfl, _, rfl, a, _, rfl, .inr (SqT.of ha), a, ns, k, k, ?_, ha, ok, fun r2 p2 H2 s2 h2 h2' => ?_⟩
  · rw [hl]; rfl
  refine ⟨p2, _, rfl, SqT.of h2', rfl, _, _, rfl, _, _, rfl, rfl, ?_⟩
  exact ⟨_, rfl, q r2 H2 s2 h2⟩
set_option maxRecDepth 100000 in
theorem ok_undone {f : Addr} {fd : FuncData} (F : Fun K "undone" "undone" s_undone f fd) (nb : Nb2 mg) (h_carry_back : Has P w K mg base 2 "carry_back" ["row", "size"] spBack)  :
    FnOk P w K mg base CX0 3 f fd ["row"] spUnd := by
  have nd := sc_undone.nd
  refine F.ok (k := 2) sc_undone (fun vs H Q E h => ?_) (fun cdv A outer s H vs Q E hr h => ?_)
  · obtain ⟨a, ns, k, rfl, _⟩ := h
    rfl
  obtain ⟨a, ns, k, rfl, ha, ok, q⟩ := h
  refine ⟨_, (pss_one (ps_ret (pe_def h_carry_back hr (pa_cons (pv 0) (pa_cons (pe_callB call_len_seq rfl nb.len PySem.boot_len (pa_cons (pv 0) pa_nil)) pa_nil))))), ?_⟩
  have hl : (ns.map V.int).length = k := by rw [List.length_map]; exact ok.1.len
  refine ⟨_, rfl, _, rfl, a, _, rfl, .inr (SqT.of ha), a, ns, k, k, ?_, ha, ok, fun r2 H2 s2 h2 => ?_⟩
  · rw [hl]; rfl
  exact q r2 H2 s2 h2
end
end K34
end
section
namespace K34
open PySem PySem.Spec PyProof.Rows L2
set_option maxHeartbeats 4000000
set_option Elab.async false
set_option linter.unusedVariables false
noncomputable def spLater : Sp := fun vs H Q _ => ∃ (a : Addr) (ns : List Int) (k : Nat) (s : Int), vs = [.ref a, .int s] ∧ H a = some (.tup (ns.map V.int)) ∧ BB.Rw ns k (-2000000000) 2000000000 ∧ k ≤ 12 ∧ -60 ≤ s ∧ s ≤ 60 ∧
  ∀ (r : Addr) (H' : Hp), Same H H' → H' r = some (.tup ((BB.lat k s ns).map V.int)) → Q (.ref r) H'
theorem ok_bound {ns : List Int} {k : Nat} {A B : Int} (h : BB.Rw ns k A B) (k12 : k ≤ 12) (n : Nat) (hn : n ≤ 60) (hA : -2000000000 ≤ A) (hB : B ≤ 2000000000) (z : Nat) : Ok (BB.it (BB.step z) n ns) k ∧ Ok (BB.it (BB.unstep z) n ns) k := by
  have hm : (n : Int) * (k : Int) ≤ 60 * 12 := by
    have := Nat.mul_le_mul hn k12
    have e : ((n * k : Nat) : Int) = (n : Int) * (k : Int) := Int.natCast_mul n k
    omega
  have h0 : 0 ≤ (n : Int) * (k : Int) := Int.mul_nonneg (by omega) (by omega)
  exact ⟨⟨(h.its n).mono (by omega) (by omega), k12⟩, ⟨(h.itu n).mono (by omega) (by omega), k12⟩⟩
section
variable {P : Program} {w : World} {K : PySem.W.Frag} {mg : Str → Option Value} {base : Heap}
set_option maxRecDepth 100000 in
theorem ok_later {f : Addr} {fd : FuncData} (F : Fun K "later" "later" s_later f fd) (nb : Nb2 mg) (h_need_number : Has P w K mg base 2 "need_number" ["thing", "least", "greatest"] spNeed) (h_carried : Has P w K mg base 2 "carried" ["row"] spCar) (h_undone : Has P w K mg base 3 "undone" ["row"] spUnd) (c_MOST_STEPS : ∃ u, mg "MOST_STEPS" = some u ∧ RelV (.int 60) u) :
    FnOk P w K mg base CX0 4 f fd ["row", "steps"] spLater := by
  have nd := sc_later.nd
  refine F.ok (k := 3) sc_later (fun vs H Q E h => ?_) (fun cdv A outer s H vs Q E hr h => ?_)
  · obtain ⟨a, ns, k, s, rfl, _⟩ := h
    rfl
  obtain ⟨a, ns, k, s, rfl, ha, rw_, k12, l1, l2, q⟩ := h
  refine ⟨_, (pss_cons (ps_expr (pe_def h_need_number hr (pa_cons (pv 1) (pa_cons (pe_un un_neg (pe_const c_MOST_STEPS)) (pa_cons (pe_const c_MOST_STEPS) pa_nil)))))
(pss_cons (ps_set (i := 2) nd rfl (Or.inl rfl) (pe_callTy call_tuple_of rfl nb.tuple boot_tuple (pa_cons (pv 0) pa_nil)))
(pss_cons (ps_for PassesOwn.never rfl (pi_range1 rfl nb.range (pa_cons (pe_callB call_abs rfl nb.abs boot_abs (pa_cons (pv 1) pa_nil)) pa_nil)) (pg_name (i := 3) nd rfl (Or.inl rfl))
(pss_one (ps_set (i := 2) nd rfl (Or.inl rfl) (pe_ifExp (pt_cmpR op_gt (pv 1) pe_int (nomark _)) (pe_def h_carried hr (pa_cons (pv 2) pa_nil)) (pe_def h_undone hr (pa_cons (pv 2) pa_nil))))))
(pss_one (ps_ret (pv 2)))))), ?_⟩
  refine ⟨_, rfl, _, rfl, s, -60, 60, rfl, l1, l2, ?_⟩
  refine ⟨_, rfl, a, _, rfl, .inr ⟨SqT.of ha, ?_⟩⟩
  refine ⟨_, rfl, _, rfl, _, rfl, ?_, ?_, ?_⟩
  · split <;> omega
  · split <;> omega
  have en : (if s < 0 then -s else s).toNat ≤ 60 := by split <;> omega
  refine for_range (fun i σ H' => Same H H' ∧ ∃ r o3, σ = [some (.ref a), some (.int s), some (.ref r), o3] ∧ H' r = some (.tup ((BB.it (if 0 < s then BB.step k else BB.unstep k) i ns).map V.int))) ⟨Same.refl H, a, _, rfl, ha⟩ (fun i σ H' hi hp => ?_) (fun σ H' hp => ?_)
  · obtain ⟨sm, r, o3, rfl, hr1⟩ := hp
    obtain ⟨ob1, ob2⟩ := ok_bound rw_ k12 i (by omega) (by omega) (by omega) k
    refine ⟨_, rfl, _, _, rfl, rfl, _, rfl, ?_⟩
    refine ite2 (fun c => ?_) (fun c => ?_)
    · have c' : 0 < s := of_decide_eq_true c
      rw [if_pos c'] at hr1 ⊢
      refine ⟨_, rfl, r, _, k, rfl, hr1, ob1, fun r2 H2 s2 h2 => ?_⟩
      exact ⟨sm.trans s2, r2, _, rfl, h2⟩
    · have c' : ¬ 0 < s := of_decide_eq_false (Bool.eq_false_iff.mpr c)
      rw [if_neg c'] at hr1 ⊢
      refine ⟨_, rfl, r, _, k, rfl, hr1, ob2, fun r2 H2 s2 h2 => ?_⟩
      exact ⟨sm.trans s2, r2, _, rfl, h2⟩
  · obtain ⟨sm, r, o3, rfl, hr1⟩ := hp
    refine ⟨_, rfl, q r H' sm ?_⟩
    rw [hr1]
    congr 3
    unfold BB.lat
    by_cases c : 0 < s
    · rw [if_pos c, if_pos c, if_neg (by omega)]
    · rw [if_neg c, if_neg c]
      congr 1
      split <;> omega
end
end K34
end
section
namespace K34
open PySem PySem.Spec PyProof.Rows L2
set_option maxHeartbeats 4000000
set_option Elab.async false
set_option linter.unusedVariables false
/-- the outer block's scope, as it stands within closed_up -/
noncomputable abbrev scIn : Scope := { kind := .function, names := [(Str.ofString ".0", .local), (Str.ofString "place", .cell), (Str.ofString "len", .globalImplicit), (Str.ofString "out", .cell)], isGenerator := false, isCoroutine := false, more := [] }
theorem in_nums (b : Int) (ns : List Int) : inV (.int b) (ns.map V.int) = decide (b ∈ ns) := by
  unfold inV
  rw [List.any_map, Bool.eq_iff_iff, List.any_eq_true, decide_eq_true_iff]
  constructor
  · rintro ⟨x, hx, e⟩
    have e' : x = b := of_decide_eq_true e
    exact e' ▸ hx
  · intro h
    exact ⟨b, h, decide_eq_true (rfl : b = b)⟩
theorem flat_nums (ns : List Int) : (ns.map V.int).all flatV = true := by
  rw [List.all_map, List.all_eq_true]
  intro x _
  rfl
/-- an item of a list of ints -/
theorem num_at {ns : List Int} {i : Nat} {x : V} (h : (ns.map V.int)[i]? = some x) : x = .int (ns.getD i 0) := by
  rw [List.getElem?_map] at h
  cases e : ns[i]? with
  | none => rw [e] at h; cases h
  | some n =>
    rw [e] at h
    cases h
    rw [List.getD_eq_getElem?_getD, e]
    rfl
noncomputable def spClosed : Sp := fun vs H Q _ => ∃ (a b : Addr) (row out : List Int), vs = [.ref a, .ref b] ∧ H a = some (.tup (row.map V.int)) ∧ H b = some (.lst (out.map V.int)) ∧ row.length ≤ 12 ∧ out.length ≤ 24 ∧
  ∀ (r : Addr) (H' : Hp), Same H H' → H' r = some (.tup ((BB.closedUp row out).map V.int)) → Q (.ref r) H'
noncomputable def spPeel : Sp := fun vs H Q _ => ∃ (a : Addr) (row : List Int), vs = [.ref a] ∧ H a = some (.tup (row.map V.int)) ∧ row.length ≤ 12 ∧
  ∀ (r : Addr) (H' : Hp), Same H H' → H' r = some (.tup ((BB.peel row).map V.int)) → Q (.ref r) H'
section
variable {P : Program} {w : World} {K : PySem.W.Frag} {mg : Str → Option Value} {base : Heap}
set_option maxRecDepth 100000 in
theorem ok_closed_up {f : Addr} {fd : FuncData} (F : Fun K "closed_up" "closed_up" s_closed_up f fd) (nb : Nb mg)   :
    FnOk P w K mg base CX0 1 f fd ["places", "out"] spClosed := by
  have nd := sc_closed_up.nd
  refine F.ok (k := 0) sc_closed_up (fun vs H Q E h => ?_) (fun cdv A outer s H vs Q E hr h => ?_)
  · obtain ⟨a, b, row, out, rfl, _⟩ := h
    rfl
  obtain ⟨a, b, row, out, rfl, ha, hb, r12, o24, q⟩ := h
  refine ⟨_, (pss_cons (ps_comp1 (ii := 2) nd rfl (Or.inl rfl) (sc := defScope s_closed_up) (N0 := ["places", "out", "left"]) (N := ["out"]) (js := [1]) rfl rfl rfl (by exact ⟨rfl, by decide +kernel, by decide +kernel, by decide +kernel, rfl, rfl, by decide, by decide +kernel, by decide +kernel⟩) rfl
(pi_tup (pv 0))
(fun _ _ _ _ _ => by exact (pts_one (pt_cmpR (op_notInK K rfl) (pv 0) (pv 1) rfl)))
(fun _ _ _ _ _ => by exact (pv 0)))
(pss_one (ps_ret (pe_callTy call_tuple_of rfl nb.tuple boot_tuple (pa_cons (pe_compC1 (sc := defScope s_closed_up) (N0 := ["places", "out", "left"]) (N := ["out"]) (js := [1]) rfl rfl rfl (by exact ⟨rfl, by decide +kernel, fun _ _ => rfl, fun _ => rfl, by decide +kernel, by decide +kernel, by decide +kernel, rfl, rfl, by decide, by decide +kernel, by decide +kernel⟩) rfl
(pi_list (pv 2))
(fun _ _ _ _ _ => by exact pts_nil)
(fun _ _ _ _ _ => by exact (pe_op op_sub (pv 0) (pe_callB (call_lenK K rfl) rfl nb.len PySem.boot_len (pa_cons
(pe_comp1 (sc := scIn) (N0 := ["place", "out"]) (N := ["place"]) (js := [0]) rfl rfl rfl (by exact ⟨rfl, by decide +kernel, by decide +kernel, by decide +kernel, rfl, rfl, by decide, by decide +kernel, by decide +kernel⟩) rfl
(pi_listK K rfl (pv 1))
(fun _ _ _ _ _ => by exact (pts_one (pt_cmpR op_lt (pv 0) (pv 1) (nomark _))))
(fun _ _ _ _ _ => by exact (pv 0))) pa_nil))))) pa_nil))))), ?_⟩
  refine ⟨_, rfl, a, rfl, ⟨_, SqT.of ha⟩, fun D hD => ?_⟩
  refine comp_sel (row.map V.int).length (by rw [List.length_map, sizeLine_eq]; omega) (fun i => decide (row.getD i 0 ∉ out)) (fun i => .int (row.getD i 0)) (fun σ => ∃ o1, σ = [o1, some (.ref b)]) _ hD (by exact ⟨_, rfl⟩) (items_tup ha) (fun i x σ' H2 hi s2 im hσ R S hR hS => ?_) (fun H1 s1 hD1 => ?_)
  · obtain ⟨o1, rfl⟩ := hσ
    obtain rfl := num_at im
    refine ⟨_, rfl, _, rfl, b, _, rfl, .inl (SqL.of (s2 _ _ hb)), rfl, flat_nums out, _, rfl, ?_⟩
    rw [in_nums, if_pos rfl]
    by_cases m : row.getD i 0 ∈ out
    · rw [decide_eq_true m]
      exact iteF (hS (decide_eq_false fun z => z m) _ _ ⟨_, rfl⟩ (Same.refl _))
    · rw [decide_eq_false m]
      exact iteT ⟨_, rfl, hR (decide_eq_true m) _ _ _ ⟨_, rfl⟩ (Same.refl _) rfl⟩
  rw [List.length_map, BB.sel_list 0 row (fun p => decide (p ∉ out)) V.int] at hD1
  have hb1 := s1 _ _ hb
  have ll : (row.filter fun p => decide (p ∉ out)).length ≤ 12 := Nat.le_trans (List.length_filter_le _ _) r12
  have qq : ∀ (r : Addr) (H' : Hp), Same H1 H' → H' r = some (.tup (((row.filter fun p => decide (p ∉ out)).map fun p => p - ((out.filter fun g => decide (g < p)).length : Int)).map V.int)) → Q (.ref r) H' := fun r H' s h => q r H' (s1.trans s) h
  generalize (row.filter fun p => decide (p ∉ out)) = left at hD1 ll qq
  refine ⟨_, rfl, D, rfl, ⟨_, SqL.of hD1⟩, fun D2 hD2 => ?_⟩
  refine comp_go (left.map V.int).length (by rw [List.length_map, sizeLine_eq]; omega) (fun i => .int (left.getD i 0 - ((out.filter fun g => decide (g < left.getD i 0)).length : Int))) (fun σ => ∃ o1, σ = [o1, some (.ref b)]) _ hD2 (by exact ⟨_, rfl⟩) (items_lst hD1) (fun i x σ' H2 hi s2 im hσ R hR => ?_) (fun H3 s3 hD3 => ?_)
  · obtain ⟨o1, rfl⟩ := hσ
    obtain rfl := num_at im
    have hb2 := s2 _ _ hb1
    refine ⟨_, rfl, _, rfl, b, rfl, ⟨_, SqL.of hb2⟩, fun D3 hD3 => ?_⟩
    refine comp_sel (out.map V.int).length (by rw [List.length_map, sizeLine_eq]; omega) (fun j => decide (out.getD j 0 < left.getD i 0)) (fun j => .int (out.getD j 0)) (fun σ => ∃ o2, σ = [o2, some (.int (left.getD i 0))]) _ hD3 (by exact ⟨_, rfl⟩) (items_lst hb2) (fun j y σ2 H4 hj s4 im4 hσ4 R4 S4 hR4 hS4 => ?_) (fun H5 s5 hD5 => ?_)
    · obtain ⟨o2, rfl⟩ := hσ4
      obtain rfl := num_at im4
      refine ⟨_, rfl, _, rfl, _, _, rfl, rfl, _, rfl, ?_⟩
      by_cases c : out.getD j 0 < left.getD i 0
      · rw [decide_eq_true c]
        exact iteT ⟨_, rfl, hR4 (decide_eq_true c) _ _ _ ⟨_, rfl⟩ (Same.refl _) rfl⟩
      · rw [decide_eq_false c]
        exact iteF (hS4 (decide_eq_false c) _ _ ⟨_, rfl⟩ (Same.refl _))
    · rw [List.length_map, BB.sel_list 0 out (fun g => decide (g < left.getD i 0)) V.int] at hD5
      refine ⟨D3, _, rfl, .inl (SqL.of hD5), _, _, rfl, rfl, hR _ _ _ ⟨_, rfl⟩ s5 ?_⟩
      rw [List.length_map]
  · rw [List.length_map, BB.all_list 0 left (fun p => V.int (p - ((out.filter fun g => decide (g < p)).length : Int)))] at hD3
    refine ⟨D2, _, rfl, .inl ⟨SqL.of hD3, fun l hl => ?_⟩⟩
    refine qq l _ (s3.trans (same_new hl _)) ?_
    rw [upd_same, List.map_map]
    rfl
set_option maxRecDepth 100000 in
theorem ok_peeled {f : Addr} {fd : FuncData} (F : Fun K "peeled" "peeled" s_peeled f fd) (nb : Nb mg) (h_closed_up : Has P w K mg base 1 "closed_up" ["places", "out"] spClosed)  :
    FnOk P w K mg base CX0 2 f fd ["row"] spPeel := by
  have nd := sc_peeled.nd
  refine F.ok (k := 1) sc_peeled (fun vs H Q E h => ?_) (fun cdv A outer s H vs Q E hr h => ?_)
  · obtain ⟨a, row, rfl, _⟩ := h
    rfl
  obtain ⟨a, row, rfl, ha, r12, q⟩ := h
  refine ⟨_, (pss_cons (ps_comp1 (ii := 1) nd rfl (Or.inl rfl) (sc := defScope s_peeled) (N0 := ["row", "balls"]) (N := ["row"]) (js := [0]) rfl rfl rfl (by exact ⟨rfl, by decide +kernel, by decide +kernel, by decide +kernel, rfl, rfl, by decide, by decide +kernel, by decide +kernel⟩) rfl
(pi_tup (pv 0))
(fun _ _ _ _ _ => by exact (pts_one (pt_cmpR (op_notInK K rfl) (pe_op op_add (pv 0) pe_int) (pv 1) rfl)))
(fun _ _ _ _ _ => by exact (pv 0)))
(pss_one (ps_ret (pe_def h_closed_up hr (pa_cons (pv 0) (pa_cons (pe_op op_cat (pv 1) (pe_comp1 (sc := defScope s_peeled) (N0 := ["row", "balls"]) (N := []) (js := []) rfl rfl rfl (by exact ⟨rfl, by decide +kernel, by decide +kernel, by decide +kernel, rfl, rfl, by decide, by decide +kernel, by decide +kernel⟩) rfl
(pi_list (pv 1))
(fun _ _ _ _ _ => by exact pts_nil)
(fun _ _ _ _ _ => by exact (pe_op op_add (pv 0) pe_int)))) pa_nil)))))), ?_⟩
  refine ⟨_, rfl, a, rfl, ⟨_, SqT.of ha⟩, fun D hD => ?_⟩
  refine comp_sel (row.map V.int).length (by rw [List.length_map, sizeLine_eq]; omega) (fun i => decide (row.getD i 0 + 1 ∉ row)) (fun i => .int (row.getD i 0)) (fun σ => ∃ o1, σ = [o1, some (.ref a)]) _ hD (by exact ⟨_, rfl⟩) (items_tup ha) (fun i x σ' H2 hi s2 im hσ R S hR hS => ?_) (fun H1 s1 hD1 => ?_)
  · obtain ⟨o1, rfl⟩ := hσ
    obtain rfl := num_at im
    refine ⟨_, rfl, _, _, rfl, rfl, _, rfl, a, _, rfl, .inr (SqT.of (s2 _ _ ha)), rfl, flat_nums row, _, rfl, ?_⟩
    rw [in_nums, if_pos rfl]
    by_cases m : row.getD i 0 + 1 ∈ row
    · rw [decide_eq_true m]
      exact iteF (hS (decide_eq_false fun z => z m) _ _ ⟨_, rfl⟩ (Same.refl _))
    · rw [decide_eq_false m]
      exact iteT ⟨_, rfl, hR (decide_eq_true m) _ _ _ ⟨_, rfl⟩ (Same.refl _) rfl⟩
  rw [List.length_map, BB.sel_list 0 row (fun p => decide (p + 1 ∉ row)) V.int] at hD1
  have hb : H1 D = some (.lst ((BB.bare row).map V.int)) := hD1
  have bl := BB.bare_le row
  refine ⟨_, rfl, _, rfl, _, rfl, D, rfl, ⟨_, SqL.of hb⟩, fun D2 hD2 => ?_⟩
  refine comp_go ((BB.bare row).map V.int).length (by rw [List.length_map, sizeLine_eq]; omega) (fun i => .int ((BB.bare row).getD i 0 + 1)) (fun σ => ∃ o1, σ = [o1]) _ hD2 (by exact ⟨_, rfl⟩) (items_lst hb) (fun i x σ' H2 hi s2 im hσ R hR => ?_) (fun H3 s3 hD3 => ?_)
  · obtain ⟨o1, rfl⟩ := hσ
    obtain rfl := num_at im
    exact ⟨_, rfl, _, _, rfl, rfl, hR _ _ _ ⟨_, rfl⟩ (Same.refl _) rfl⟩
  · rw [List.length_map, BB.all_list 0 (BB.bare row) (fun p => V.int (p + 1))] at hD3
    refine ⟨D, D2, _, _, rfl, rfl, s3 _ _ hb, hD3, by rw [List.length_map, List.length_map, sizeLine_eq]; omega, fun p hp => ?_⟩
    have s4 := s3.trans (same_new hp (.lst ((BB.bare row).map V.int ++ (BB.bare row).map fun p => V.int (p + 1))))
    refine ⟨a, p, row, BB.bare row ++ (BB.bare row).map (· + 1), rfl, s4 _ _ (s1 _ _ ha), ?_, r12, by rw [List.length_append, List.length_map]; omega, fun r H' s h => q r H' ((s1.trans s4).trans s) h⟩
    rw [upd_same, List.map_append, List.map_map]
    rfl
end
end K34
end
section
namespace K34
open PySem PySem.Spec PyProof.Rows L2
set_option maxHeartbeats 4000000
set_option maxRecDepth 100000
set_option Elab.async false
set_option linter.unusedVariables false
/-- the outer block's scope, within lengths_from -/
noncomputable abbrev scLf : Scope := { kind := .function, names := [(Str.ofString ".0", .local), (Str.ofString "ball", .cell), (Str.ofString "len", .globalImplicit), (Str.ofString "counts", .cell)], isGenerator := false, isCoroutine := false, more := [] }
open BB (lens outs)
noncomputable def spLf : Sp := fun vs H Q _ => ∃ (a : Addr) (cs : List Int), vs = [.ref a] ∧ H a = some (.lst (cs.map V.int)) ∧ cs.length ≤ 12 ∧ (∀ c ∈ cs, 0 ≤ c ∧ c ≤ 12) ∧ ∀ (r : Addr) (H' : Hp), Same H H' → H' r = some (.tup ((lens cs).map V.int)) → Q (.ref r) H'
theorem head_rdL {K : PySem.W.Frag} {a : Addr} {ns : List Int} {H : Hp} {σ : L2.St} {Q : VK} (h0 : σ[0]? = some (some (.ref a))) (ha : H a = some (.lst (ns.map V.int))) (q : Q (.int (ns.headD 0)) H) :
    tIf (fun σ H Q => tVar 0 σ H fun x H' => ∃ k, TruV K x H' k ∧ Q k H') (tOp (rIxL K) (tVar 0) (tC (.int 0))) (tC (.int 0)) σ H Q := by
  refine ⟨_, h0, !(ns.map V.int).isEmpty, .inl ⟨_, SqL.of ha, rfl⟩, ?_⟩
  cases ns with
  | nil => exact iteF q
  | cons p r => exact iteT ⟨_, h0, a, _, _, _, rfl, rfl, SqL.of ha, (show atI ((p :: r).map V.int) ((0 : Nat) : Int) = some (.int p) from atI_nat rfl), q⟩
noncomputable def spLen : Sp := fun vs H Q _ => ∃ (a : Addr) (row : List Int), vs = [.ref a] ∧ H a = some (.tup (row.map V.int)) ∧ row.length ≤ 12 ∧ ∀ (r : Addr) (H' : Hp), Same H H' → H' r = some (.tup ((lens (outs row.length row)).map V.int)) → Q (.ref r) H'
theorem outs_fuel : ∀ (n m : Nat) (row : List Int), row.length ≤ n → row.length ≤ m → outs n row = outs m row
  | 0, 0, _, _, _ => rfl
  | 0, m + 1, row, h, _ => by
    have e : row = [] := List.length_eq_zero_iff.mp (by omega)
    subst e
    unfold outs
    rw [if_pos rfl]
  | n + 1, 0, row, _, h => by
    have e : row = [] := List.length_eq_zero_iff.mp (by omega)
    subst e
    unfold outs
    rw [if_pos rfl]
  | n + 1, m + 1, row, h1, h2 => by
    unfold outs
    by_cases e : row = []
    · rw [if_pos e, if_pos e]
    · rw [if_neg e, if_neg e]
      have := BB.peel_lt e
      rw [outs_fuel n m _ (by omega) (by omega)]
theorem outs_step {ms : List Int} (h : ms ≠ []) : outs ms.length ms = ((ms.length : Int) - ((BB.peel ms).length : Int)) :: outs (BB.peel ms).length (BB.peel ms) := by
  have lt := BB.peel_lt h
  obtain ⟨k, e⟩ : ∃ k, ms.length = k + 1 := ⟨ms.length - 1, by omega⟩
  rw [outs_fuel ms.length (k + 1) ms (Nat.le_refl _) (by omega)]
  show (if ms = [] then _ else _) = _
  rw [if_neg h, outs_fuel k (BB.peel ms).length _ (by omega) (Nat.le_refl _)]
theorem seq_while {c : TT} {tb u : TS} {D : Ends} {σ : L2.St} {H : Hp} (h : tWhile c tb { D with nx := u D } σ H) : tSeq (tWhile c tb) u D σ H := h
/-- how many balls there are in the third slot's row -/
noncomputable def many (σ : L2.St) (H : Hp) : Nat := match σ with
  | [_, _, some (V.ref p), _] => (match H p with | some (.tup xs) => xs.length | _ => 0)
  | _ => 0
theorem many_at {H : Hp} {o1 o2 o3 : Option V} {p : Addr} {ms : List Int} (h : H p = some (.tup (ms.map V.int))) : many [o1, o2, some (.ref p), o3] H = ms.length := by
  show (match H p with | some (.tup xs) => xs.length | _ => 0) = _
  rw [h]
  exact List.length_map ..
section
variable {P : Program} {w : World} {K : PySem.W.Frag} {mg : Str → Option Value} {base : Heap}
set_option maxRecDepth 100000 in
theorem ok_lengths_from {f : Addr} {fd : FuncData} (F : Fun K "lengths_from" "lengths_from" s_lengths_from f fd) (nb : Nb2 mg)   :
    FnOk P w K mg base CX0 1 f fd ["counts"] spLf := by
  have nd := sc_lengths_from.nd
  refine F.ok (k := 0) sc_lengths_from (fun vs H Q E h => ?_) (fun cdv A outer s H vs Q E hr h => ?_)
  · obtain ⟨a, cs, rfl, _⟩ := h
    rfl
  obtain ⟨a, cs, rfl, ha, c12, cb, q⟩ := h
  refine ⟨_, (pss_cons (ps_set (i := 1) nd rfl (Or.inl rfl) (pe_ifExp (pt_truth (pv 0) (fun _ => rfl)) (pe_ix ix_list (pv 0) pe_int (fun _ _ => rfl)) pe_int))
(pss_one (ps_ret (pe_callTy call_tuple_of rfl nb.tuple boot_tuple (pa_cons (pe_compC1 (sc := defScope s_lengths_from) (N0 := ["counts", "first"]) (N := ["counts"]) (js := [0]) rfl rfl rfl (by exact ⟨rfl, by decide +kernel, fun _ _ => rfl, fun _ => rfl, by decide +kernel, by decide +kernel, by decide +kernel, rfl, rfl, by decide, by decide +kernel, by decide +kernel⟩) rfl
(pi_range2 rfl nb.range (pa_cons pe_int (pa_cons (pe_op op_add (pv 1) pe_int) pa_nil)))
(fun _ _ _ _ _ => by exact pts_nil)
(fun _ _ _ _ _ => by exact (pe_callB (call_lenK K rfl) rfl nb.len PySem.boot_len (pa_cons
(pe_comp1 (sc := scLf) (N0 := ["ball", "counts"]) (N := ["ball"]) (js := [0]) rfl rfl rfl (by exact ⟨rfl, by decide +kernel, by decide +kernel, by decide +kernel, rfl, rfl, by decide, by decide +kernel, by decide +kernel⟩) rfl
(pi_listK K rfl (pv 1))
(fun _ _ _ _ _ => by exact (pts_one (pt_cmpR op_ge (pv 0) (pv 1) (nomark _))))
(fun _ _ _ _ _ => by exact (pv 0))) pa_nil)))) pa_nil))))), ?_⟩
  refine head_rdL (K := K) rfl ha ?_
  have hb : 0 ≤ cs.headD 0 ∧ cs.headD 0 ≤ 12 := by
    cases cs with
    | nil => exact ⟨by decide, by decide⟩
    | cons c r => exact cb c List.mem_cons_self
  refine ⟨_, rfl, _, _, rfl, rfl, 1, cs.headD 0 + 1, rfl, ⟨by decide, by decide, by omega, by omega⟩, fun D hD => ?_⟩
  rw [show (cs.headD 0 + 1 - 1).toNat = (cs.headD 0).toNat by congr 1; omega]
  refine comp_go (cs.headD 0).toNat (by rw [sizeLine_eq]; omega) (fun j => .int ((cs.filter fun c => decide ((j : Int) < c)).length : Int)) (fun σ => ∃ o1, σ = [o1, some (.ref a)]) (fun j H' x => x = .int (1 + (j : Int))) hD (by exact ⟨_, rfl⟩) (fun j H2 _ => items_rng 1 _ j H2 (Same.refl _)) (fun j x σ' H2 hj s2 im hσ R hR => ?_) (fun H3 s3 hD3 => ?_)
  · obtain ⟨o1, rfl⟩ := hσ
    subst im
    have ha2 := s2 _ _ ha
    refine ⟨_, rfl, a, rfl, ⟨_, SqL.of ha2⟩, fun D3 hD3 => ?_⟩
    refine comp_sel (cs.map V.int).length (by rw [List.length_map, sizeLine_eq]; omega) (fun k => decide ((j : Int) < cs.getD k 0)) (fun k => .int (cs.getD k 0)) (fun σ => ∃ o2, σ = [o2, some (.int (1 + (j : Int)))]) _ hD3 (by exact ⟨_, rfl⟩) (items_lst ha2) (fun k y σ2 H4 hk s4 im4 hσ4 R4 S4 hR4 hS4 => ?_) (fun H5 s5 hD5 => ?_)
    · obtain ⟨o2, rfl⟩ := hσ4
      obtain rfl := num_at im4
      refine ⟨_, rfl, _, rfl, _, _, rfl, rfl, _, rfl, ?_⟩
      by_cases c : (j : Int) < cs.getD k 0
      · rw [decide_eq_true (by omega)]
        exact iteT ⟨_, rfl, hR4 (decide_eq_true c) _ _ _ ⟨_, rfl⟩ (Same.refl _) rfl⟩
      · rw [decide_eq_false (by omega)]
        exact iteF (hS4 (decide_eq_false c) _ _ ⟨_, rfl⟩ (Same.refl _))
    · rw [List.length_map, BB.sel_list 0 cs (fun c => decide ((j : Int) < c)) V.int] at hD5
      refine ⟨D3, _, rfl, .inl (SqL.of hD5), hR _ _ _ ⟨_, rfl⟩ s5 ?_⟩
      rw [List.length_map]
  · refine ⟨D, _, rfl, .inl ⟨SqL.of hD3, fun l hl => ?_⟩⟩
    refine q l _ (s3.trans (same_new hl _)) ?_
    rw [upd_same]
    unfold lens
    rw [List.map_map]
    rfl
set_option maxRecDepth 100000 in
theorem ok_lengths {f : Addr} {fd : FuncData} (F : Fun K "lengths" "lengths" s_lengths f fd) (nb : Nb2 mg) (h_peeled : Has P w K mg base 2 "peeled" ["row"] spPeel) (h_lengths_from : Has P w K mg base 1 "lengths_from" ["counts"] spLf)  :
    FnOk P w K mg base CX0 3 f fd ["row"] spLen := by
  have nd := sc_lengths.nd
  refine F.ok (k := 2) sc_lengths (fun vs H Q E h => ?_) (fun cdv A outer s H vs Q E hr h => ?_)
  · obtain ⟨a, row, rfl, _⟩ := h
    rfl
  obtain ⟨a, row, rfl, ha, r12, q⟩ := h
  refine ⟨_, (pss_cons (ps_set (i := 1) nd rfl (Or.inl rfl) (pe_lst pa_nil))
(pss_cons (ps_set (i := 2) nd rfl (Or.inl rfl) (pv 0))
(pss_cons (ps_while PassesOwn.never (pt_truth (pv 2) (fun _ => rfl))
(pss_cons (ps_set (i := 3) nd rfl (Or.inl rfl) (pe_def h_peeled hr (pa_cons (pv 2) pa_nil)))
(pss_cons (ps_expr (pe_bm PySem.F.plainAttrs_list PySem.F.slot_list_append PySem.F.type_list_append mt_append (pv 1) (pa_cons (pe_op op_sub (pe_callB call_len_seq rfl nb.len PySem.boot_len (pa_cons (pv 2) pa_nil)) (pe_callB call_len_seq rfl nb.len PySem.boot_len (pa_cons (pv 3) pa_nil))) pa_nil)))
(pss_one (ps_set (i := 2) nd rfl (Or.inl rfl) (pv 3))))))
(pss_one (ps_ret (pe_def h_lengths_from hr (pa_cons (pv 1) pa_nil))))))), ?_⟩
  refine ⟨(by show 0 ≤ sizeLine; decide), fun c hc => ?_⟩
  have s1 := same_new hc (.lst [])
  refine ⟨_, rfl, ?_⟩
  unfold gName
  dsimp only
  refine seq_while ?_
  refine while_by (fun σ H' => Same H H' ∧ ∃ (p : Addr) (ms done : List Int) (o3 : Option V), σ = [some (.ref a), some (.ref c), some (.ref p), o3] ∧ H' p = some (.tup (ms.map V.int)) ∧ H' c = some (.lst (done.map V.int)) ∧ done ++ outs ms.length ms = outs row.length row ∧ done.length + ms.length ≤ row.length ∧ ∀ z ∈ done, 0 ≤ z ∧ z ≤ 12) many
    ⟨s1, a, row, [], _, rfl, s1 _ _ ha, upd_same, rfl, by simp, fun z hz => absurd hz List.not_mem_nil⟩ (fun σ H' hp => ?_) (fun σ H Q Q' hq h => ?_)
  · obtain ⟨sm, p, ms, done, o3, rfl, hms, hcd, eo, ln, bd⟩ := hp
    have mm := many_at (o1 := some (V.ref a)) (o2 := some (V.ref c)) (o3 := o3) hms
    by_cases em : ms = []
    · subst em
      refine ⟨_, rfl, false, .inr (.inl ⟨_, SqT.of hms, rfl⟩), iteF ?_⟩
      have ed : done = outs row.length row := by rw [← eo]; simp [outs]
      refine ⟨_, rfl, c, done, rfl, hcd, by omega, bd, fun r H2 s2 h2 => ?_⟩
      rw [ed] at h2
      exact q r H2 (sm.trans s2) h2
    · have lt := BB.peel_lt em
      refine ⟨_, rfl, true, .inr (.inl ⟨_, SqT.of hms, by simp [em]⟩), iteT ?_⟩
      refine ⟨_, rfl, p, ms, rfl, hms, by omega, fun r2 H2 s2 h2 => ?_⟩
      refine ⟨_, rfl, .inl ⟨rfl, _, SqL.of (s2 _ _ hcd)⟩, _, rfl, p, _, rfl, .inr (SqT.of (s2 _ _ hms)), _, rfl, r2, _, rfl, .inr (SqT.of h2), _, _, rfl, rfl, ?_⟩
      refine ⟨c, _, _, rfl, rfl, s2 _ _ hcd, by rw [List.length_map, sizeLine_eq]; omega, ?_⟩
      have r2c : r2 ≠ c := fun z => by rw [z, s2 _ _ hcd] at h2; cases h2
      rw [List.length_map, List.length_map]
      have h3 : (upd H2 c (.lst (done.map V.int ++ [.int ((ms.length : Int) - ((BB.peel ms).length : Int))]))) r2 = some (.tup ((BB.peel ms).map V.int)) := by rw [upd_ne r2c]; exact h2
      refine ⟨_, rfl, ⟨fun b o hb => by rw [upd_ne (ne_of_none hb hc)]; exact s2 _ _ (sm _ _ hb), r2, BB.peel ms, done ++ [(ms.length : Int) - ((BB.peel ms).length : Int)], _, rfl, h3, by rw [upd_same, List.map_append]; rfl, ?_, ?_, fun z hz => ?_⟩, ?_⟩
      · rw [← eo, outs_step em, List.append_assoc]
        rfl
      · rw [List.length_append, List.length_singleton]
        omega
      · rcases List.mem_append.mp hz with w | w
        · exact bd z w
        · rw [List.mem_singleton] at w
          omega
      · show many [_, _, some (V.ref r2), _] _ < _
        rw [many_at h3, mm]
        exact lt
  · obtain ⟨v, e, k, tv, q1⟩ := h
    exact ⟨v, e, k, tv, hq _ _ q1⟩
end
end K34
end
section
namespace K34
open PySem PySem.Spec PyProof.Rows L2
set_option maxHeartbeats 4000000
set_option maxRecDepth 100000
set_option Elab.async false
set_option linter.unusedVariables false
open BB (lens outs)
noncomputable def tks (k : Nat) (ns : List Int) : List Int := (List.range k).map fun (i : Nat) => ((BB.taken (i + 1) ns : Nat) : Int)
noncomputable def spTks : Sp := fun vs H Q _ => ∃ (a : Addr) (ns : List Int) (k : Nat), vs = [.ref a] ∧ H a = some (.tup (ns.map V.int)) ∧ Ok ns k ∧
  ∀ (r : Addr) (H' : Hp), Same H H' → H' r = some (.lst ((tks k ns).map V.int)) → Q (.ref r) H'
noncomputable def spOm : Sp := fun vs H Q _ => ∃ (a b : Addr) (r1 r2 : List Int), vs = [.ref a, .ref b] ∧ H a = some (.tup (r1.map V.int)) ∧ H b = some (.tup (r2.map V.int)) ∧ r1.length ≤ 12 ∧ r2.length ≤ 12 ∧
  ∀ (H' : Hp), Same H H' → Q (.bl (decide (lens (outs r1.length r1) = lens (outs r2.length r2)))) H'
section
variable {P : Program} {w : World} {K : PySem.W.Frag} {mg : Str → Option Value} {base : Heap}
set_option maxRecDepth 100000 in
theorem ok_takings {f : Addr} {fd : FuncData} (F : Fun K "takings" "takings" s_takings f fd) (nb : Nb3 mg) (h_carry : Has P w K mg base 1 "carry" ["row", "size"] spCarry)  :
    FnOk P w K mg base CX0 2 f fd ["row"] spTks := by
  have nd := sc_takings.nd
  refine F.ok (k := 1) sc_takings (fun vs H Q E h => ?_) (fun cdv A outer s H vs Q E hr h => ?_)
  · obtain ⟨a, ns, k, rfl, _⟩ := h
    rfl
  obtain ⟨a, ns, k, rfl, ha, ok, q⟩ := h
  refine ⟨_, (pss_cons (ps_set (i := 1) nd rfl (Or.inl rfl) (pe_lst pa_nil))
(pss_cons (ps_for PassesOwn.never rfl (pi_range2 rfl nb.range (pa_cons pe_int (pa_cons (pe_op op_add (pe_callB call_len_seq rfl nb.len PySem.boot_len (pa_cons (pv 0) pa_nil)) pe_int) pa_nil))) (pg_name (i := 2) nd rfl (Or.inl rfl))
(pss_cons (ps_asg (pe_def h_carry hr (pa_cons (pv 0) (pa_cons (pv 2) pa_nil))) (pg_tup rfl (pgs_cons (pg_name (i := 3) nd rfl (Or.inl rfl)) (pgs_cons (pg_name (i := 4) nd rfl (Or.inl rfl)) pgs_nil))))
(pss_one (ps_expr (pe_bm PySem.F.plainAttrs_list PySem.F.slot_list_append PySem.F.type_list_append mt_append (pv 1) (pa_cons (pv 4) pa_nil))))))
(pss_one (ps_ret (pv 1))))), ?_⟩
  obtain ⟨rw_, k12⟩ := ok
  have kl := rw_.len
  refine ⟨(by show 0 ≤ sizeLine; decide), fun D hD => ?_⟩
  have s1 := same_new hD (.lst [])
  refine ⟨_, rfl, a, _, rfl, .inr (SqT.of (s1 _ _ ha)), _, _, rfl, rfl, 1, _, rfl, ⟨by decide, by decide, by rw [List.length_map]; omega, by rw [List.length_map]; omega⟩, ?_⟩
  rw [show ((((ns.map V.int).length : Int) + 1 - 1).toNat) = k by rw [List.length_map]; omega]
  refine for_range (fun i σ H' => ∃ o2 o3 o4, σ = [some (.ref a), some (.ref D), o2, o3, o4] ∧ Same H H' ∧ H' D = some (.lst ((tks i ns).map V.int))) ⟨_, _, _, rfl, s1, upd_same⟩ (fun i σ H' hi hp => ?_) (fun σ H' hp => ?_)
  · obtain ⟨o2, o3, o4, rfl, sm, hd⟩ := hp
    refine ⟨_, rfl, _, rfl, a, ns, k, i + 1, ?_, sm _ _ ha, ⟨rw_, k12⟩, fun r2 p2 H2 s2 h2 h2' => ?_⟩
    · rw [show ((i + 1 : Nat) : Int) = 1 + (i : Int) by omega]; rfl
    refine ⟨p2, _, rfl, SqT.of h2', rfl, _, _, rfl, _, _, rfl, rfl, ?_⟩
    have hd2 := s2 _ _ hd
    refine ⟨_, rfl, .inl ⟨rfl, _, SqL.of hd2⟩, _, rfl, D, _, _, rfl, rfl, hd2, by unfold tks; rw [List.length_map, List.length_map, List.length_range, sizeLine_eq]; omega, ?_⟩
    refine ⟨_, _, _, rfl, fun c o hc => by rw [upd_ne (ne_of_none hc hD)]; exact s2 _ _ (sm c o hc), ?_⟩
    rw [upd_same]
    unfold tks
    rw [List.range_succ, List.map_append, List.map_append]
    rfl
  · obtain ⟨o2, o3, o4, rfl, sm, hd⟩ := hp
    exact ⟨_, rfl, q D H' sm hd⟩
set_option maxRecDepth 100000 in
theorem ok_one_making {f : Addr} {fd : FuncData} (F : Fun K "one_making" "one_making" s_one_making f fd) (nb : Nb3 mg) (h_lengths : Has P w K mg base 3 "lengths" ["row"] spLen)  :
    FnOk P w K mg base CX0 4 f fd ["one", "other"] spOm := by
  have nd := sc_one_making.nd
  refine F.ok (k := 3) sc_one_making (fun vs H Q E h => ?_) (fun cdv A outer s H vs Q E hr h => ?_)
  · obtain ⟨a, b, r1, r2, rfl, _⟩ := h
    rfl
  obtain ⟨a, b, r1, r2, rfl, ha, hb, l1, l2, q⟩ := h
  refine ⟨_, (pss_one (ps_ret (pe_cmpR (op_eqT hr.units0) (pe_def h_lengths hr (pa_cons (pv 0) pa_nil)) (pe_def h_lengths hr (pa_cons (pv 1) pa_nil)) (nomark _)))), ?_⟩
  refine ⟨_, rfl, a, r1, rfl, ha, l1, fun x1 H1 s1 h1 => ?_⟩
  refine ⟨_, rfl, b, r2, rfl, s1 _ _ hb, l2, fun x2 H2 s2 h2 => ?_⟩
  exact ⟨x1, x2, _, _, rfl, rfl, SqT.of (s2 _ _ h1), SqT.of h2, q H2 (s1.trans s2)⟩
end
end K34
end
section
namespace K34
open PySem PySem.Spec PyProof.Rows L2
set_option maxHeartbeats 4000000
set_option maxRecDepth 100000
set_option Elab.async false
set_option linter.unusedVariables false
theorem prs_same {H H' : Hp} {ys : List V} {bl : List (Int × Int)} (t : Prs H ys bl) (s : ∀ p xs, H p = some (.tup xs) → H' p = some (.tup xs)) : Prs H' ys bl := ⟨t.1, fun j b e => let ⟨p, a, c⟩ := t.2 j b e; ⟨p, a, s _ _ c⟩⟩
theorem prs_snoc {H : Hp} {ys : List V} {bl : List (Int × Int)} {p : Addr} {b : Int × Int} (t : Prs H ys bl) (h : H p = some (.tup [.int b.1, .int b.2])) : Prs H (ys ++ [.ref p]) (bl ++ [b]) := by
  refine ⟨by simp [t.1], fun j c e => ?_⟩
  by_cases z : j < bl.length
  · rw [List.getElem?_append_left z] at e
    obtain ⟨q, e1, e2⟩ := t.2 j c e
    exact ⟨q, by rw [List.getElem?_append_left (by rw [t.1]; exact z)]; exact e1, e2⟩
  · have jl : j < (bl ++ [b]).length := (List.getElem?_eq_some_iff.mp e).1
    have jj : j = bl.length := by rw [List.length_append, List.length_singleton] at jl; omega
    subst jj
    rw [List.getElem?_append_right (Nat.le_refl _), Nat.sub_self] at e
    cases e
    exact ⟨p, by rw [← t.1, List.getElem?_append_right (Nat.le_refl _), Nat.sub_self]; rfl, h⟩
/-- what stands while pairs are told: H0 ahead, f the pairs, h the balls that are held -/
structure Hd (H0 : Hp) (f h : Addr) (fl : List (Int × Int)) (hs : List Int) (H : Hp) : Prop where
  sm : Same H0 H
  f0 : H0 f = none
  h0 : H0 h = none
  fh : f ≠ h
  fy : ∃ ys, H f = some (.lst ys) ∧ Prs H ys fl
  hy : H h = some (.lst (hs.map V.int))
theorem Hd.pop {H0 H : Hp} {f h p : Addr} {fl : List (Int × Int)} {zs : List Int} {t box : Int} {ys : List V} (d : Hd H0 f h fl (zs ++ [t]) H) (hf : H f = some (.lst ys)) (pr : Prs H ys fl) (hp : (upd H h (.lst (zs.map V.int))) p = none) :
    (upd (upd H h (.lst (zs.map V.int))) p (.tup [.int t, .int box])) f = some (.lst ys) ∧ Hd H0 f h (fl ++ [(t, box)]) zs (upd (upd (upd H h (.lst (zs.map V.int))) p (.tup [.int t, .int box])) f (.lst (ys ++ [.ref p]))) := by
  have ph : p ≠ h := fun z => by rw [z, upd_same] at hp; cases hp
  have hp' : H p = none := by rw [upd_ne ph] at hp; exact hp
  have pf : p ≠ f := fun z => by rw [z, hf] at hp'; cases hp'
  have tupk : ∀ q xs, H q = some (.tup xs) → (upd (upd (upd H h (.lst (zs.map V.int))) p (.tup [.int t, .int box])) f (.lst (ys ++ [.ref p]))) q = some (.tup xs) := fun q xs e => by
    rw [upd_ne (fun z => by rw [z, hf] at e; cases e), upd_ne (fun z => by rw [z, hp'] at e; cases e), upd_ne (fun z => by rw [z, d.hy] at e; cases e)]
    exact e
  refine ⟨by rw [upd_ne pf.symm, upd_ne d.fh]; exact hf, fun c o e => ?_, d.f0, d.h0, d.fh, ⟨_, upd_same, prs_snoc (prs_same pr tupk) (by rw [upd_ne pf, upd_same])⟩, ?_⟩
  · rw [upd_ne (ne_of_none e d.f0), upd_ne (fun z => by rw [z] at e; rw [d.sm _ _ e] at hp'; cases hp'), upd_ne (ne_of_none e d.h0)]
    exact d.sm _ _ e
  · rw [upd_ne d.fh.symm, upd_ne ph.symm, upd_same]
theorem Hd.push {H0 H : Hp} {f h : Addr} {fl : List (Int × Int)} {hs : List Int} {x : Int} (d : Hd H0 f h fl hs H) : Hd H0 f h fl (hs ++ [x]) (upd H h (.lst (hs.map V.int ++ [.int x]))) := by
  obtain ⟨ys, hf, pr⟩ := d.fy
  refine ⟨fun c o e => by rw [upd_ne (ne_of_none e d.h0)]; exact d.sm _ _ e, d.f0, d.h0, d.fh, ⟨ys, by rw [upd_ne d.fh]; exact hf, prs_same pr fun q xs e => ?_⟩, by rw [upd_same, List.map_append]; rfl⟩
  rw [upd_ne (fun z => by rw [z, d.hy] at e; cases e)]
  exact e
/-- the arithmetic: so many places are gone through -/
structure Pg (row : List Int) (i : Nat) (fl : List (Int × Int)) (hs : List Int) (box : Int) : Prop where
  stk : BB.Stk row hs box
  fd : BB.FD row fl
  perm : (fl.map (·.1) ++ hs).Perm (row.take i)
  lo : ∀ p ∈ row.take i, p < box
theorem Pg.pop {row : List Int} {i : Nat} {fl : List (Int × Int)} {zs : List Int} {t box : Int} (g : Pg row i fl (zs ++ [t]) box) (hb : box ∉ row) : Pg row i (fl ++ [(t, box)]) zs (box + 1) := by
  obtain ⟨l, pr, s⟩ := g.stk.pop hb
  refine ⟨s, fun q hq => ?_, ?_, fun p hp => by have := g.lo p hp; omega⟩
  · rcases List.mem_append.mp hq with z | z
    · exact g.fd q z
    · rw [List.mem_singleton] at z
      subst z
      exact ⟨l, pr⟩
  · rw [List.map_append]
    refine List.Perm.trans ?_ g.perm
    rw [List.append_assoc]
    exact List.Perm.append_left _ List.perm_append_comm
theorem take_next {row : List Int} {i : Nat} {p : Int} (hi : i < row.length) (ep : row.getD i 0 = p) : row.take (i + 1) = row.take i ++ [p] := by
  rw [List.take_succ, List.getElem?_eq_getElem hi]
  rw [List.getD_eq_getElem?_getD, List.getElem?_eq_getElem hi] at ep
  show _ ++ [row[i]] = _
  rw [show row[i] = p from ep]
theorem Pg.push {row : List Int} {i : Nat} {fl : List (Int × Int)} {hs : List Int} {p box : Int} (g : Pg row i fl hs box) (hi : i < row.length) (ep : row.getD i 0 = p) (bp : box ≤ p) (c : hs = [] ∨ box = p) : Pg row (i + 1) fl (hs ++ [p]) (p + 1) := by
  have et := take_next hi ep
  have pm : p ∈ row := by
    rw [← ep, List.getD_eq_getElem?_getD, List.getElem?_eq_getElem hi]
    exact List.getElem_mem hi
  refine ⟨g.stk.push pm c, g.fd, ?_, fun q hq => ?_⟩
  · rw [et, ← List.append_assoc]
    exact g.perm.append_right _
  · rw [et] at hq
    rcases List.mem_append.mp hq with z | z
    · have := g.lo q z; omega
    · rw [List.mem_singleton] at z; omega
/-- a box that is passed is empty -/
theorem Pg.empty {row : List Int} {i : Nat} {fl : List (Int × Int)} {hs : List Int} {box : Int} (g : Pg row i fl hs box) (h : ∀ p ∈ row.drop i, box < p) : box ∉ row := fun z => by
  rw [← List.take_append_drop i row] at z
  rcases List.mem_append.mp z with y | y
  · have := g.lo _ y; omega
  · have := h _ y; omega
/-- how many are held -/
noncomputable def held (σ : L2.St) (H : Hp) : Nat := match σ with
  | [_, _, some (V.ref p), _, _] => (match H p with | some (.lst xs) => xs.length | _ => 0)
  | _ => 0
theorem held_at {H : Hp} {o1 o2 o3 o4 : Option V} {p : Addr} {xs : List V} (h : H p = some (.lst xs)) : held [o1, o2, some (.ref p), o3, o4] H = xs.length := by
  show (match H p with | some (.lst xs) => xs.length | _ => 0) = _
  rw [h]
noncomputable def spPairs : Sp := fun vs H Q _ => ∃ (a : Addr) (row : List Int), vs = [.ref a] ∧ H a = some (.tup (row.map V.int)) ∧ row.Pairwise (· < ·) ∧ row.length ≤ 12 ∧
  ∀ (r : Addr) (zs : List V) (bl : List (Int × Int)) (H' : Hp), Same H H' → H r = none → H' r = some (.lst zs) → Prs H' zs bl → bl.map (·.1) = row → BB.FD row bl → Q (.ref r) H'
noncomputable def st2 (σ : L2.St) : Int := match σ[2]? with
  | some (some (V.int x)) => x
  | _ => 0
section
variable {P : Program} {w : World} {K : PySem.W.Frag} {mg : Str → Option Value} {base : Heap}
set_option maxRecDepth 100000 in
theorem ok_pairs {f : Addr} {fd : FuncData} (F : Fun K "pairs" "pairs" s_pairs f fd) (nb : Nb3 mg)   :
    FnOk P w K mg base CX0 1 f fd ["row"] spPairs := by
  have nd := sc_pairs.nd
  refine F.ok (k := 0) sc_pairs (fun vs H Q E h => ?_) (fun cdv A outer s H vs Q E hr h => ?_)
  · obtain ⟨a, row, rfl, _⟩ := h
    rfl
  obtain ⟨a, row, rfl, ha, up, r12, q⟩ := h
  refine ⟨_, (pss_cons (ps_set (i := 1) nd rfl (Or.inl rfl) (pe_lst pa_nil))
(pss_cons (ps_set (i := 2) nd rfl (Or.inl rfl) (pe_lst pa_nil))
(pss_cons (ps_set (i := 3) nd rfl (Or.inl rfl) (pe_ifExp (pt_truth (pv 0) (fun _ => rfl)) (pe_ix ix_tup (pv 0) pe_int (fun _ _ => rfl)) pe_int))
(pss_cons (ps_for PassesOwn.never rfl (pi_tup (pv 0)) (pg_name (i := 4) nd rfl (Or.inl rfl))
(pss_cons (ps_while PassesOwn.never (PW.pt (pw_and (pt_truth (pv 2) (fun _ => rfl)) (pw_and1 (pt_cmpR op_lt (pv 3) (pv 4) (nomark _)))))
(pss_cons (ps_expr (pe_bm PySem.F.plainAttrs_list PySem.F.slot_list_append PySem.F.type_list_append mt_append (pv 1) (pa_cons (pe_tup (pa_cons (pe_bm0 PySem.F.plainAttrs_list PySem.F.slot_list_pop PySem.F.type_list_pop mt_pop (pv 2)) (pa_cons (pv 3) pa_nil))) pa_nil)))
(pss_one (ps_aug (i := 3) nd rfl (Or.inl rfl) pe_int ip_add))))
(pss_cons (ps_expr (pe_bm PySem.F.plainAttrs_list PySem.F.slot_list_append PySem.F.type_list_append mt_append (pv 2) (pa_cons (pv 4) pa_nil)))
(pss_one (ps_set (i := 3) nd rfl (Or.inl rfl) (pe_op op_add (pv 4) pe_int))))))
(pss_cons (ps_while PassesOwn.never (pt_truth (pv 2) (fun _ => rfl))
(pss_cons (ps_expr (pe_bm PySem.F.plainAttrs_list PySem.F.slot_list_append PySem.F.type_list_append mt_append (pv 1) (pa_cons (pe_tup (pa_cons (pe_bm0 PySem.F.plainAttrs_list PySem.F.slot_list_pop PySem.F.type_list_pop mt_pop (pv 2)) (pa_cons (pv 3) pa_nil))) pa_nil)))
(pss_one (ps_aug (i := 3) nd rfl (Or.inl rfl) pe_int ip_add))))
(pss_one (ps_ret (pe_callB call_sortP rfl nb.sorted boot_sorted (pa_cons (pv 1) pa_nil))))))))), ?_⟩
  refine ⟨(by show 0 ≤ sizeLine; decide), fun f hf => ?_⟩
  have s1 := same_new hf (.lst [])
  refine ⟨(by show 0 ≤ sizeLine; decide), fun h hh => ?_⟩
  have s2 := same_new hh (.lst [])
  have fh : f ≠ h := ne_of_none upd_same hh
  have h0 : H h = none := by rw [upd_ne fh.symm] at hh; exact hh
  have d0 : Hd H f h [] [] (upd (upd H f (.lst [])) h (.lst [])) := ⟨s1.trans s2, hf, h0, fh, ⟨[], s2 _ _ upd_same, rfl, fun j b e => by cases e⟩, upd_same⟩
  have ha2 := d0.sm _ _ ha
  generalize upd (upd H f (.lst [])) h (.lst []) = H2 at d0 ha2 ⊢
  refine head_rd (K := K) rfl ha2 ?_
  refine ⟨_, rfl, a, rfl, ⟨_, SqT.of ha2⟩, ?_⟩
  refine for_tup (xs := row.map V.int) (fun i σ H' => ∃ (fl : List (Int × Int)) (hs : List Int) (box : Int) (o4 : Option V), σ = [some (.ref a), some (.ref f), some (.ref h), some (.int box), o4] ∧ Hd H f h fl hs H' ∧ Pg row i fl hs box ∧ ∀ p ∈ row.drop i, box ≤ p) ?_ (fun i σ H' _ hp => ?_) (fun i x σ H' hxi hp => ?_) (fun σ H' hp => ?_)
  · refine ⟨[], [], _, _, rfl, d0, ⟨fun j h e => (by cases e), fun q hq => absurd hq List.not_mem_nil, List.Perm.refl _, fun p hp => absurd hp List.not_mem_nil⟩, fun p hp => ?_⟩
    cases row with
    | nil => simp at hp
    | cons b r =>
      rcases List.mem_cons.mp hp with z | z
      · rw [z]; exact Int.le_refl _
      · exact Int.le_of_lt ((List.pairwise_cons.mp up).1 p z)
  · obtain ⟨fl, hs, box, o4, rfl, dd, _⟩ := hp
    exact SqT.of (dd.sm _ _ ha)
  · obtain ⟨fl, hs, box, o4, rfl, dd, pg, ge⟩ := hp
    have hi : i < row.length := by
      have := (List.getElem?_eq_some_iff.mp hxi).1
      simpa using this
    obtain ⟨p, rfl, ep⟩ := int_at hxi
    have edr : row.drop i = p :: row.drop (i + 1) := by
      rw [List.drop_eq_getElem_cons hi]
      have : row[i] = p := by rw [← ep, List.getD_eq_getElem?_getD, List.getElem?_eq_getElem hi]; rfl
      rw [this]
    have bp0 : box ≤ p := ge p (by rw [edr]; exact List.mem_cons_self)
    have nx : ∀ q ∈ row.drop (i + 1), p + 1 ≤ q := fun q hq => by
      have up2 : (p :: row.drop (i + 1)).Pairwise (· < ·) := by rw [← edr]; exact up.sublist (List.drop_sublist ..)
      have := (List.pairwise_cons.mp up2).1 q hq
      omega
    have hbig : ∀ (fl : List (Int × Int)) (hs : List Int), (fl.map (·.1) ++ hs).Perm (row.take i) → fl.length ≤ 12 ∧ hs.length ≤ 12 := fun fl hs pm => by
      have := pm.length_eq
      rw [List.length_append, List.length_map, List.length_take] at this
      omega
    refine while_by (fun σ H' => ∃ (fl : List (Int × Int)) (hs : List Int) (box : Int), σ = [some (.ref a), some (.ref f), some (.ref h), some (.int box), some (.int p)] ∧ Hd H f h fl hs H' ∧ Pg row i fl hs box ∧ box ≤ p) held ⟨fl, hs, box, rfl, dd, pg, bp0⟩ (fun σ H1 hp => ?_) (fun σ H Q Q' hq h => ?_)
    · obtain ⟨fl, hs, box, rfl, dd, pg, bp⟩ := hp
      obtain ⟨ys, hfy, pr⟩ := dd.fy
      obtain ⟨lf, lh⟩ := hbig fl hs pg.perm
      have mm := held_at (o1 := some (V.ref a)) (o2 := some (V.ref f)) (o3 := some (V.int box)) (o4 := some (V.int p)) dd.hy
      rcases List.eq_nil_or_concat hs with e0 | ⟨zs, t, e0⟩
      · subst e0
        refine ⟨_, rfl, false, .inl ⟨_, SqL.of dd.hy, rfl⟩, iteF (iteF ?_)⟩
        refine ⟨_, rfl, .inl ⟨rfl, _, SqL.of dd.hy⟩, _, rfl, h, _, _, rfl, rfl, dd.hy, by rw [List.length_map, sizeLine_eq]; omega, ?_⟩
        refine ⟨_, rfl, _, _, rfl, rfl, ?_⟩
        exact ⟨fl, _, p + 1, _, rfl, dd.push, pg.push hi ep bp (.inl rfl), nx⟩
      rw [List.concat_eq_append] at e0
      subst e0
      refine ⟨_, rfl, true, .inl ⟨_, SqL.of dd.hy, by simp⟩, iteT ?_⟩
      refine ⟨_, rfl, _, rfl, _, _, rfl, rfl, _, rfl, ?_⟩
      refine ite2 (fun c => ?_) (fun c => ?_)
      · have c' : box < p := of_decide_eq_true c
        have hb := pg.empty fun z hz => by
          rw [edr] at hz
          rcases List.mem_cons.mp hz with y | y
          · rw [y]; exact c'
          · have := nx z y; omega
        have edl : ((zs ++ [t]).map V.int).dropLast = zs.map V.int := by rw [List.map_append, List.map_singleton, List.dropLast_concat]
        have ela : ((zs ++ [t]).map V.int)[((zs ++ [t]).map V.int).length - 1]? = some (.int t) := by rw [List.map_append, List.map_singleton, List.length_append, List.length_singleton, Nat.add_sub_cancel, List.getElem?_append_right (Nat.le_refl _), Nat.sub_self]; rfl
        refine ⟨_, rfl, .inl ⟨rfl, _, SqL.of hfy⟩, _, rfl, .inl ⟨rfl, _, SqL.of dd.hy⟩, h, _, _, rfl, rfl, dd.hy, ela, _, rfl, (by show 2 ≤ sizeLine; decide), fun q1 hq1 => ?_⟩
        rw [edl] at hq1 ⊢
        obtain ⟨hf1, dd'⟩ := dd.pop (box := box) hfy pr hq1
        refine ⟨f, _, _, rfl, rfl, hf1, by rw [pr.1, sizeLine_eq]; omega, ?_⟩
        refine ⟨_, rfl, _, _, rfl, rfl, ?_⟩
        exact ⟨⟨_, zs, box + 1, rfl, dd', pg.pop hb, by omega⟩, by show held [_, _, some (V.ref h), _, _] _ < _; rw [mm, held_at dd'.hy, List.length_map, List.length_map, List.length_append, List.length_singleton]; omega⟩
      · have c' : ¬ box < p := of_decide_eq_false (Bool.eq_false_iff.mpr c)
        refine ⟨_, rfl, .inl ⟨rfl, _, SqL.of dd.hy⟩, _, rfl, h, _, _, rfl, rfl, dd.hy, by rw [List.length_map, sizeLine_eq]; omega, ?_⟩
        refine ⟨_, rfl, _, _, rfl, rfl, ?_⟩
        exact ⟨fl, _, p + 1, _, rfl, dd.push, pg.push hi ep bp (.inr (by omega)), nx⟩
    · obtain ⟨v, e, k, tv, q1⟩ := h
      cases k with
      | true =>
        rw [if_pos rfl] at q1
        obtain ⟨v2, e2, v3, e3, i1, i2, f1, f2, k2, f3, q2⟩ := q1
        exact ⟨v, e, true, tv, iteT ⟨v2, e2, v3, e3, i1, i2, f1, f2, k2, f3, hq _ _ q2⟩⟩
      | false => exact ⟨v, e, false, tv, iteF (hq _ _ (by rw [if_neg Bool.false_ne_true] at q1; exact q1))⟩
  · obtain ⟨fl, hs, box, o4, rfl, dd, pg, ge⟩ := hp
    rw [List.length_map] at pg ge
    have hbig : ∀ (fl : List (Int × Int)) (hs : List Int), (fl.map (·.1) ++ hs).Perm (row.take row.length) → fl.length ≤ 12 ∧ hs.length ≤ 12 := fun fl hs pm => by
      have := pm.length_eq
      rw [List.length_append, List.length_map, List.length_take] at this
      omega
    dsimp only
    refine seq_while ?_
    refine while_by (fun σ H' => ∃ (fl : List (Int × Int)) (hs : List Int) (box : Int), σ = [some (.ref a), some (.ref f), some (.ref h), some (.int box), o4] ∧ Hd H f h fl hs H' ∧ Pg row row.length fl hs box) held ⟨fl, hs, box, rfl, dd, pg⟩ (fun σ H1 hp => ?_) (fun σ H Q Q' hq h => ?_)
    · obtain ⟨fl, hs, box, rfl, dd, pg⟩ := hp
      obtain ⟨ys, hfy, pr⟩ := dd.fy
      obtain ⟨lf, lh⟩ := hbig fl hs pg.perm
      have mm := held_at (o1 := some (V.ref a)) (o2 := some (V.ref f)) (o3 := some (V.int box)) (o4 := o4) dd.hy
      rcases List.eq_nil_or_concat hs with e0 | ⟨zs, t, e0⟩
      · subst e0
        refine ⟨_, rfl, false, .inl ⟨_, SqL.of dd.hy, rfl⟩, iteF ?_⟩
        have pm := pg.perm
        rw [List.append_nil, List.take_length] at pm
        refine ⟨_, rfl, f, ys, fl, rfl, hfy, pr, pm.nodup_iff.mpr (up.imp fun {x y} z => by omega), by omega, fun bl' zs l pm' pw' pr' hl => ?_⟩
        have s9 := same_new hl (.lst zs)
        refine q l zs bl' _ (dd.sm.trans s9) ?_ upd_same (prs_same pr' fun x xs e => s9 _ _ e) ?_ fun z hz => pg.fd z (pm'.mem_iff.mp hz)
        · cases e9 : H l with
          | none => rfl
          | some o => rw [dd.sm _ _ e9] at hl; cases hl
        · refine BB.rise_ext (List.pairwise_map.mpr pw') up fun x => ?_
          rw [(pm'.map (·.1)).mem_iff, pm.mem_iff]
      rw [List.concat_eq_append] at e0
      subst e0
      refine ⟨_, rfl, true, .inl ⟨_, SqL.of dd.hy, by simp⟩, iteT ?_⟩
      have hb := pg.empty fun z hz => by
        rw [List.drop_length] at hz
        cases hz
      have edl : ((zs ++ [t]).map V.int).dropLast = zs.map V.int := by rw [List.map_append, List.map_singleton, List.dropLast_concat]
      have ela : ((zs ++ [t]).map V.int)[((zs ++ [t]).map V.int).length - 1]? = some (.int t) := by rw [List.map_append, List.map_singleton, List.length_append, List.length_singleton, Nat.add_sub_cancel, List.getElem?_append_right (Nat.le_refl _), Nat.sub_self]; rfl
      refine ⟨_, rfl, .inl ⟨rfl, _, SqL.of hfy⟩, _, rfl, .inl ⟨rfl, _, SqL.of dd.hy⟩, h, _, _, rfl, rfl, dd.hy, ela, _, rfl, (by show 2 ≤ sizeLine; decide), fun q1 hq1 => ?_⟩
      rw [edl] at hq1 ⊢
      obtain ⟨hf1, dd'⟩ := dd.pop (box := box) hfy pr hq1
      refine ⟨f, _, _, rfl, rfl, hf1, by rw [pr.1, sizeLine_eq]; omega, ?_⟩
      refine ⟨_, rfl, _, _, rfl, rfl, ?_⟩
      exact ⟨⟨_, zs, box + 1, rfl, dd', pg.pop hb⟩, by show held [_, _, some (V.ref h), _, _] _ < _; rw [mm, held_at dd'.hy, List.length_map, List.length_map, List.length_append, List.length_singleton]; omega⟩
    · obtain ⟨v, e, k, tv, q1⟩ := h
      exact ⟨v, e, k, tv, hq _ _ q1⟩
end
end K34
end
section
namespace K34
open PySem PySem.Spec PyProof.Rows L2
set_option maxHeartbeats 4000000
set_option maxRecDepth 100000
set_option Elab.async false
set_option linter.unusedVariables false
theorem prs_get {H : Hp} {xs : List V} {bl : List (Int × Int)} (t : Prs H xs bl) {i : Nat} {x : V} (h : xs[i]? = some x) : ∃ (p : Addr) (b : Int × Int), x = .ref p ∧ bl[i]? = some b ∧ H p = some (.tup [.int b.1, .int b.2]) := by
  have il : i < bl.length := by rw [← t.1]; exact (List.getElem?_eq_some_iff.mp h).1
  obtain ⟨p, e1, e2⟩ := t.2 i _ (List.getElem?_eq_getElem il)
  rw [h] at e1
  exact ⟨p, _, Option.some.inj e1, List.getElem?_eq_getElem il, e2⟩
noncomputable def dps (bl : List (Int × Int)) : List Int := bl.map fun q => (BB.dep bl q : Int)
theorem getD_at {l : List (Int × Int)} {k : Nat} {b : Int × Int} (h : l[k]? = some b) : l.getD k (0, 0) = b := by rw [List.getD_eq_getElem?_getD, h]; rfl
/-- what is kept of the pairs that are told, the last first -/
noncomputable def inR (bl : List (Int × Int)) : List (Int × Int) := (bl.map fun q => (q.2, (BB.dep bl q : Int))).reverse
theorem inR_cons {c : Int × Int} {r : List (Int × Int)} (h : BB.Nst (c :: r)) : inR (c :: r) = inR r ++ [(c.2, (BB.dep (c :: r) c : Int))] := by
  unfold inR
  rw [List.map_cons, List.reverse_cons]
  congr 2
  exact List.map_congr_left fun q hq => by rw [BB.dep_tail h hq]
theorem dps_cons {c : Int × Int} {r : List (Int × Int)} (h : BB.Nst (c :: r)) : dps (c :: r) = (BB.dep (c :: r) c : Int) :: dps r := by
  unfold dps
  rw [List.map_cons]
  congr 1
  exact List.map_congr_left fun q hq => by rw [BB.dep_tail h hq]
noncomputable def nsR (c : Int × Int) (r : List (Int × Int)) : List Int := ((inR r).filter fun z => decide (z.1 < c.2)).map (·.2)
theorem mem_nsR {c : Int × Int} {r : List (Int × Int)} {x : Int} : x ∈ nsR c r ↔ ∃ q ∈ r, q.2 < c.2 ∧ x = (BB.dep r q : Int) := by
  unfold nsR inR
  constructor
  · intro h
    obtain ⟨z, hz, rfl⟩ := List.mem_map.mp h
    obtain ⟨h1, h2⟩ := List.mem_filter.mp hz
    obtain ⟨q, hq, rfl⟩ := List.mem_map.mp (List.mem_reverse.mp h1)
    exact ⟨q, hq, of_decide_eq_true h2, rfl⟩
  · rintro ⟨q, hq, l, rfl⟩
    exact List.mem_map.mpr ⟨(q.2, (BB.dep r q : Int)), List.mem_filter.mpr ⟨List.mem_reverse.mpr (List.mem_map.mpr ⟨q, hq, rfl⟩), decide_eq_true l⟩, rfl⟩
theorem dep_is {c : Int × Int} {r : List (Int × Int)} {m : Int} (h : (nsR c r = [] ∧ m = 0) ∨ (m ∈ nsR c r ∧ ∀ x ∈ nsR c r, x ≤ m)) : 1 + m = (BB.dep (c :: r) c : Int) := by
  rw [BB.dep_head]
  have up : ∀ q ∈ r, q.2 < c.2 → BB.dep r q ≤ BB.mx ((r.filter fun e => decide (e.2 < c.2)).map (BB.dep r)) := fun q hq l => BB.le_mx (List.mem_map_of_mem (f := BB.dep r) (List.mem_filter.mpr ⟨hq, decide_eq_true l⟩))
  have lo : BB.mx ((r.filter fun e => decide (e.2 < c.2)).map (BB.dep r)) = 0 ∨ ∃ q ∈ r, q.2 < c.2 ∧ BB.dep r q = BB.mx ((r.filter fun e => decide (e.2 < c.2)).map (BB.dep r)) := by
    rcases BB.mx_mem ((r.filter fun e => decide (e.2 < c.2)).map (BB.dep r)) with z | z
    · exact .inl z
    · obtain ⟨q, hq, e⟩ := List.mem_map.mp z
      obtain ⟨h1, h2⟩ := List.mem_filter.mp hq
      exact .inr ⟨q, h1, of_decide_eq_true h2, e⟩
  generalize BB.mx ((r.filter fun e => decide (e.2 < c.2)).map (BB.dep r)) = M at up lo ⊢
  have e : m = (M : Int) := by
    rcases h with ⟨n, rfl⟩ | ⟨hm, hx⟩
    · rcases lo with z | ⟨q, h1, h2, h3⟩
      · rw [z]; rfl
      · have := mem_nsR.mpr ⟨q, h1, h2, rfl⟩
        rw [n] at this
        cases this
    · obtain ⟨q, h1, h2, h3⟩ := mem_nsR.mp hm
      have u := up q h1 h2
      rcases lo with z | ⟨q', h1', h2', h3'⟩
      · omega
      · have := hx _ (mem_nsR.mpr ⟨q', h1', h2', rfl⟩)
        omega
  rw [e, Int.natCast_add]
  rfl
noncomputable def spDp : Sp := fun vs H Q _ => ∃ (a : Addr) (row : List Int), vs = [.ref a] ∧ H a = some (.tup (row.map V.int)) ∧ row.Pairwise (· < ·) ∧ row.length ≤ 12 ∧
  ∀ (r : Addr) (bl : List (Int × Int)) (H' : Hp), Same H H' → H r = none → H' r = some (.lst ((dps bl).map V.int)) → bl.map (·.1) = row → BB.FD row bl → Q (.ref r) H'
structure Dp (H0 H : Hp) (t n rp : Addr) (zs : List V) (bl sl : List (Int × Int)) : Prop where
  sm : Same H0 H
  t0 : H0 t = none
  n0 : H0 n = none
  tn : t ≠ n
  rt : rp ≠ t
  rn : rp ≠ n
  hz : H rp = some (.lst zs)
  pz : Prs H zs bl
  ht : H t = some (.lst ((dps sl).reverse.map V.int))
  hn : ∃ ys, H n = some (.lst ys) ∧ Prs H ys (inR sl)
theorem Dp.same {H0 H H' : Hp} {t n rp : Addr} {zs : List V} {bl sl : List (Int × Int)} (d : Dp H0 H t n rp zs bl sl) (s : Same H H') : Dp H0 H' t n rp zs bl sl := by
  obtain ⟨ys, h1, h2⟩ := d.hn
  exact ⟨d.sm.trans s, d.t0, d.n0, d.tn, d.rt, d.rn, s _ _ d.hz, prs_same d.pz fun p xs e => s _ _ e, s _ _ d.ht, ⟨ys, s _ _ h1, prs_same h2 fun p xs e => s _ _ e⟩⟩
theorem Dp.push {H0 H : Hp} {t n rp p : Addr} {zs ys : List V} {bl sl : List (Int × Int)} {c : Int × Int} {x : Int} (d : Dp H0 H t n rp zs bl sl) (ns : BB.Nst (c :: sl)) (ex : x = (BB.dep (c :: sl) c : Int)) (hn : H n = some (.lst ys)) (pn : Prs H ys (inR sl)) (hp : H p = none) :
    (upd H p (.tup [.int c.2, .int x])) n = some (.lst ys) ∧ (upd (upd H p (.tup [.int c.2, .int x])) n (.lst (ys ++ [.ref p]))) t = some (.lst ((dps sl).reverse.map V.int)) ∧
    Dp H0 (upd (upd (upd H p (.tup [.int c.2, .int x])) n (.lst (ys ++ [.ref p]))) t (.lst ((dps sl).reverse.map V.int ++ [.int x]))) t n rp zs bl (c :: sl) := by
  have pn' : p ≠ n := (ne_of_none hn hp).symm
  have pt' : p ≠ t := (ne_of_none d.ht hp).symm
  have pr' : p ≠ rp := (ne_of_none d.hz hp).symm
  have tupk : ∀ q xs, H q = some (.tup xs) → (upd (upd (upd H p (.tup [.int c.2, .int x])) n (.lst (ys ++ [.ref p]))) t (.lst ((dps sl).reverse.map V.int ++ [.int x]))) q = some (.tup xs) := fun q xs e => by
    rw [upd_ne (fun z => by rw [z, d.ht] at e; cases e), upd_ne (fun z => by rw [z, hn] at e; cases e), upd_ne (fun z => by rw [z, hp] at e; cases e)]
    exact e
  refine ⟨by rw [upd_ne pn'.symm]; exact hn, by rw [upd_ne d.tn, upd_ne pt'.symm]; exact d.ht, fun q o e => ?_, d.t0, d.n0, d.tn, d.rt, d.rn, ?_, prs_same d.pz tupk, ?_, ⟨ys ++ [.ref p], ?_, ?_⟩⟩
  · rw [upd_ne (ne_of_none e d.t0), upd_ne (ne_of_none e d.n0), upd_ne (ne_of_none (d.sm _ _ e) hp)]
    exact d.sm _ _ e
  · rw [upd_ne d.rt, upd_ne d.rn, upd_ne pr'.symm]
    exact d.hz
  · rw [upd_same, dps_cons ns, List.reverse_cons, List.map_append, ex]
    rfl
  · rw [upd_ne d.tn.symm, upd_same]
  · rw [inR_cons ns]
    exact prs_snoc (prs_same pn tupk) (by rw [upd_ne pt', upd_ne pn', upd_same, ex])
section
variable {P : Program} {w : World} {K : PySem.W.Frag} {mg : Str → Option Value} {base : Heap}
set_option maxRecDepth 100000 in
theorem ok_depths {f : Addr} {fd : FuncData} (F : Fun K "depths" "depths" s_depths f fd) (nb : Nb3 mg) (h_pairs : Has P w K mg base 1 "pairs" ["row"] spPairs)  :
    FnOk P w K mg base CX0 2 f fd ["row"] spDp := by
  have nd := sc_depths.nd
  refine F.ok (k := 1) sc_depths (fun vs H Q E h => ?_) (fun cdv A outer s H vs Q E hr h => ?_)
  · obtain ⟨a, row, rfl, _⟩ := h
    rfl
  obtain ⟨a, row, rfl, ha, up, r12, q⟩ := h
  refine ⟨_, (pss_cons (ps_set (i := 1) nd rfl (Or.inl rfl) (pe_lst pa_nil))
(pss_cons (ps_set (i := 2) nd rfl (Or.inl rfl) (pe_lst pa_nil))
(pss_cons (ps_for PassesOwn.never rfl (pi_revL rfl nb.rev (pa_cons (pe_def h_pairs hr (pa_cons (pv 0) pa_nil)) pa_nil)) (pg_tup rfl (pgs_cons (pg_name (i := 3) nd rfl (Or.inl rfl)) (pgs_cons (pg_name (i := 4) nd rfl (Or.inr rfl)) pgs_nil)))
(pss_cons (ps_set (i := 5) nd rfl (Or.inl rfl) (pe_op op_add pe_int (pe_maxD rfl rfl nb.max (pa_cons (pe_comp2 (sc := defScope s_depths) (N0 := ["row", "told", "inner", "ball", "box", "depth"]) (N := ["box"]) (js := [4]) rfl rfl rfl (by exact ⟨rfl, by decide +kernel, by decide +kernel, by decide +kernel, rfl, rfl, by decide, by decide +kernel, by decide +kernel⟩) rfl rfl
(pi_list (pv 2))
(fun _ _ _ _ _ => by exact (pts_one (pt_cmpR op_lt (pv 0) (pv 2) (nomark _))))
(fun _ _ _ _ _ => by exact (pv 1))) pa_nil))))
(pss_cons (ps_expr (pe_bm PySem.F.plainAttrs_list PySem.F.slot_list_append PySem.F.type_list_append mt_append (pv 2) (pa_cons (pe_tup (pa_cons (pv 4) (pa_cons (pv 5) pa_nil))) pa_nil)))
(pss_one (ps_expr (pe_bm PySem.F.plainAttrs_list PySem.F.slot_list_append PySem.F.type_list_append mt_append (pv 1) (pa_cons (pv 5) pa_nil)))))))
(pss_one (ps_ret (pe_revL (pv 1))))))), ?_⟩
  refine ⟨(by show 0 ≤ sizeLine; decide), fun t ht => ?_⟩
  have s1 := same_new ht (.lst [])
  refine ⟨(by show 0 ≤ sizeLine; decide), fun n hn => ?_⟩
  have s2 := same_new hn (.lst [])
  have tn : t ≠ n := ne_of_none upd_same hn
  have n0 : H n = none := by rw [upd_ne tn.symm] at hn; exact hn
  have ht2 := s2 _ _ (show (upd H t (.lst [])) t = some (.lst []) from upd_same)
  have hn2 : (upd (upd H t (.lst [])) n (.lst [])) n = some (.lst []) := upd_same
  have S2 := s1.trans s2
  generalize upd (upd H t (.lst [])) n (.lst []) = H2 at S2 ht2 hn2 ⊢
  refine ⟨_, rfl, a, row, rfl, S2 _ _ ha, up, r12, fun rp zs bl H3 s3 n3 hz pz e fd => ⟨rp, zs, rfl, SqL.of hz, ?_⟩⟩
  have ns := BB.nst_of e up fd
  have lb : bl.length ≤ 12 := by rw [← e, List.length_map] at r12; exact r12
  have lz := pz.1
  have d0 : Dp H H3 t n rp zs bl (bl.drop (bl.length - 0)) := by
    rw [Nat.sub_zero, List.drop_length]
    exact ⟨S2.trans s3, ht, n0, tn, (ne_of_none ht2 n3).symm, (ne_of_none hn2 n3).symm, hz, pz, s3 _ _ ht2, ⟨[], s3 _ _ hn2, rfl, fun j b e => by cases e⟩⟩
  refine for_items zs.length (fun i H' x => zs.reverse[i]? = some x) (fun i σ H' => ∃ o3 o4 o5, σ = [some (.ref a), some (.ref t), some (.ref n), o3, o4, o5] ∧ Dp H H' t n rp zs bl (bl.drop (bl.length - i))) ⟨_, _, _, rfl, d0⟩ (fun i σ H' hi hp => ?_) (fun i x σ H' H4 hi hp s4 hx => ?_) (fun σ H' hp => ?_)
  · obtain ⟨o3, o4, o5, rfl, d⟩ := hp
    exact items_revL d.hz i H' (Same.refl _)
  · obtain ⟨o3, o4, o5, rfl, d⟩ := hp
    have d4 := d.same s4
    rw [List.getElem?_reverse hi] at hx
    obtain ⟨p, c, rfl, ec, hp⟩ := prs_get d4.pz hx
    have jl : zs.length - 1 - i < bl.length := by omega
    have ed : bl.drop (bl.length - (i + 1)) = c :: bl.drop (bl.length - i) := by
      rw [show bl.length - (i + 1) = zs.length - 1 - i by omega, List.drop_eq_getElem_cons jl, show zs.length - 1 - i + 1 = bl.length - i by omega]
      rw [List.getElem?_eq_getElem jl] at ec
      rw [Option.some.inj ec]
    have nd2 : ∀ k, BB.Nst (bl.drop k) := fun k => by
      induction k with
      | zero => exact ns
      | succ k ih =>
        by_cases z : k < bl.length
        · rw [List.drop_eq_getElem_cons z] at ih
          exact ih.tail
        · rw [List.drop_eq_nil_of_le (by omega)]
          rw [List.drop_eq_nil_of_le (by omega)] at ih
          exact ih
    have nsc := nd2 (bl.length - (i + 1))
    rw [ed] at nsc
    rw [ed]
    have sl12 : (bl.drop (bl.length - i)).length ≤ 12 := by rw [List.length_drop]; omega
    generalize bl.drop (bl.length - i) = sl at d4 nsc sl12 ⊢
    obtain ⟨ys, hys, pys⟩ := d4.hn
    have ly : ys.length = sl.length := by rw [pys.1]; unfold inR; rw [List.length_reverse, List.length_map]
    refine ⟨p, _, rfl, SqT.of hp, rfl, _, _, rfl, _, _, rfl, rfl, ?_⟩
    refine ⟨_, rfl, n, rfl, ⟨_, SqL.of hys⟩, fun D hD => ?_⟩
    refine comp_sel ys.length (by rw [sizeLine_eq]; omega) (fun j => decide (((inR sl).getD j (0, 0)).1 < c.2)) (fun j => .int ((inR sl).getD j (0, 0)).2) (fun σ => ∃ o1 o2, σ = [o1, o2, some (.int c.2)]) _ hD (by exact ⟨_, _, rfl⟩) (items_lst hys) (fun j x σ' H5 hj s5 im hσ R S hR hS => ?_) (fun H5 s5 hD5 => ?_)
    · obtain ⟨o1, o2, rfl⟩ := hσ
      obtain ⟨p5, b5, rfl, eb, hp5⟩ := prs_get pys im
      rw [getD_at eb] at hR hS
      refine ⟨p5, _, rfl, SqT.of (s5 _ _ hp5), rfl, _, _, rfl, _, _, rfl, rfl, ?_⟩
      refine ⟨_, rfl, _, rfl, _, _, rfl, rfl, _, rfl, ?_⟩
      by_cases l : b5.1 < c.2
      · rw [decide_eq_true l]
        exact iteT ⟨_, rfl, hR (decide_eq_true l) _ _ _ ⟨_, _, rfl⟩ (Same.refl _) rfl⟩
      · rw [decide_eq_false l]
        exact iteF (hS (decide_eq_false l) _ _ ⟨_, _, rfl⟩ (Same.refl _))
    have e5 : ((List.range ys.length).filter fun j => decide (((inR sl).getD j (0, 0)).1 < c.2)).map (fun j => V.int ((inR sl).getD j (0, 0)).2) = (nsR c sl).map V.int := by
      rw [pys.1]
      have := BB.sel_list (0, 0) (inR sl) (fun z => decide (z.1 < c.2)) (fun z => V.int z.2)
      rw [this]
      unfold nsR
      rw [List.map_map]
      rfl
    rw [e5] at hD5
    refine ⟨D, nsR c sl, rfl, SqL.of hD5, fun m hm => ?_⟩
    have em := dep_is hm
    refine ⟨_, _, rfl, rfl, ?_⟩
    have d5 := d4.same s5
    have hys5 := s5 _ _ hys
    have pys5 : Prs H5 ys (inR sl) := prs_same pys fun p xs e => s5 _ _ e
    refine ⟨_, rfl, .inl ⟨rfl, _, SqL.of hys5⟩, _, rfl, _, rfl, (by show 2 ≤ sizeLine; decide), fun q1 hq1 => ?_⟩
    obtain ⟨k1, k2, k3⟩ := d5.push (c := c) nsc em hys5 pys5 hq1
    refine ⟨n, _, _, rfl, rfl, k1, by rw [ly, sizeLine_eq]; omega, ?_⟩
    refine ⟨_, rfl, .inl ⟨rfl, _, SqL.of k2⟩, _, rfl, t, _, _, rfl, rfl, k2, by rw [List.length_map, List.length_reverse, sizeLine_eq]; unfold dps; rw [List.length_map]; omega, ?_⟩
    exact ⟨_, _, _, rfl, k3⟩
  · obtain ⟨o3, o4, o5, rfl, d⟩ := hp
    rw [lz, Nat.sub_self, List.drop_zero] at d
    refine ⟨_, rfl, t, _, rfl, SqL.of d.ht, fun r hr0 => ?_⟩
    have s9 := same_new hr0 (.lst ((dps bl).reverse.map V.int).reverse)
    refine q r bl _ (d.sm.trans s9) ?_ (by rw [upd_same, List.map_reverse, List.reverse_reverse]) e fd
    cases e9 : H r with
    | none => rfl
    | some o => rw [d.sm _ _ e9] at hr0; cases hr0
end
end K34
end
section
namespace K34
open PySem PySem.Spec PyProof.Rows L2
set_option maxHeartbeats 4000000
set_option maxRecDepth 100000
set_option Elab.async false
set_option linter.unusedVariables false
theorem firsts_of {row : List Int} (up : row.Pairwise (· < ·)) : (row.filter fun p => decide (p - 1 ∉ row)) = (BB.blk row).map (·.1) := by
  cases row with
  | nil => rfl
  | cons b r =>
    have u := List.pairwise_cons.mp up
    exact BB.blk_firsts u.2 b u.1
theorem lasts_of {row : List Int} (up : row.Pairwise (· < ·)) : (row.filter fun p => decide (p + 1 ∉ row)) = (BB.blk row).map fun q => q.1 + q.2 - 1 := by
  cases row with
  | nil => rfl
  | cons b r =>
    have u := List.pairwise_cons.mp up
    exact BB.blk_lasts u.2 b u.1
theorem blk_len : ∀ row : List Int, (BB.blk row).length ≤ row.length
  | [] => Nat.le_refl _
  | p :: r => by
    have ih := blk_len r
    unfold BB.blk
    split
    · simp
    · rename_i e
      rw [e] at ih
      split <;> simp only [List.length_cons] at ih ⊢ <;> omega
/-- a list of pairs -/
noncomputable def Tps (H : Hp) (ys : List V) (bl : List (Int × Int)) : Prop := ys.length = bl.length ∧ ∀ (j : Nat) (b : Int × Int), bl[j]? = some b → ∃ p, ys[j]? = some (.ref p) ∧ H p = some (.tup [.int b.1, .int b.2])
theorem Tps.same {H H' : Hp} {ys : List V} {bl : List (Int × Int)} (t : Tps H ys bl) (s : Same H H') : Tps H' ys bl := ⟨t.1, fun j b e => let ⟨p, a, c⟩ := t.2 j b e; ⟨p, a, s _ _ c⟩⟩
noncomputable def spBin : Sp := fun vs H Q _ => ∃ (a : Addr) (row : List Int), vs = [.ref a] ∧ H a = some (.tup (row.map V.int)) ∧ row.Pairwise (· < ·) ∧ row.length ≤ 12 ∧
  ∀ (r : Addr) (ys : List V) (H' : Hp), Same H H' → H' r = some (.lst ys) → Tps H' ys (BB.blk row) → Q (.ref r) H'
section
variable {P : Program} {w : World} {K : PySem.W.Frag} {mg : Str → Option Value} {base : Heap}
set_option maxRecDepth 100000 in
theorem ok_blocks_in {f : Addr} {fd : FuncData} (F : Fun K "blocks_in" "blocks_in" s_blocks_in f fd) (nb : Nb2 mg)   :
    FnOk P w K mg base CX0 1 f fd ["row"] spBin := by
  have nd := sc_blocks_in.nd
  refine F.ok (k := 0) sc_blocks_in (fun vs H Q E h => ?_) (fun cdv A outer s H vs Q E hr h => ?_)
  · obtain ⟨a, row, rfl, _⟩ := h
    rfl
  obtain ⟨a, row, rfl, ha, up, r12, q⟩ := h
  refine ⟨_, (pss_cons (ps_comp1 (ii := 1) nd rfl (Or.inl rfl) (sc := defScope s_blocks_in) (N0 := ["row", "firsts", "lasts"]) (N := ["row"]) (js := [0]) rfl rfl rfl (by exact ⟨rfl, by decide +kernel, by decide +kernel, by decide +kernel, rfl, rfl, by decide, by decide +kernel, by decide +kernel⟩) rfl
(pi_tup (pv 0))
(fun _ _ _ _ _ => by exact (pts_one (pt_cmpR (op_notInK K rfl) (pe_op op_sub (pv 0) pe_int) (pv 1) rfl)))
(fun _ _ _ _ _ => by exact (pv 0)))
(pss_cons (ps_comp1 (ii := 2) nd rfl (Or.inl rfl) (sc := defScope s_blocks_in) (N0 := ["row", "firsts", "lasts"]) (N := ["row"]) (js := [0]) rfl rfl rfl (by exact ⟨rfl, by decide +kernel, by decide +kernel, by decide +kernel, rfl, rfl, by decide, by decide +kernel, by decide +kernel⟩) rfl
(pi_tup (pv 0))
(fun _ _ _ _ _ => by exact (pts_one (pt_cmpR (op_notInK K rfl) (pe_op op_add (pv 0) pe_int) (pv 1) rfl)))
(fun _ _ _ _ _ => by exact (pv 0)))
(pss_one (ps_ret (pe_comp2 (sc := defScope s_blocks_in) (N0 := ["row", "firsts", "lasts"]) (N := []) (js := []) rfl rfl rfl (by exact ⟨rfl, by decide +kernel, by decide +kernel, by decide +kernel, rfl, rfl, by decide, by decide +kernel, by decide +kernel⟩) rfl rfl
(pi_zip false rfl nb.zip (pa_cons (pv 1) (pa_cons (pv 2) pa_nil)))
(fun _ _ _ _ _ => by exact pts_nil)
(fun _ _ _ _ _ => by exact (pe_tup (pa_cons (pv 0) (pa_cons (pe_op op_add (pe_op op_sub (pv 1) (pv 0)) pe_int) pa_nil))))))))), ?_⟩
  refine ⟨_, rfl, a, rfl, ⟨_, SqT.of (ha)⟩, fun D1 hD1 => ?_⟩
  refine comp_sel (row.map V.int).length (by rw [List.length_map, sizeLine_eq]; omega) (fun i => decide (row.getD i 0 - 1 ∉ row)) (fun i => .int (row.getD i 0)) (fun σ => ∃ o1, σ = [o1, some (.ref a)]) _ hD1 (by exact ⟨_, rfl⟩) (items_tup (ha)) (fun i x σ' H2 hi s2 im hσ R S hR hS => ?_) (fun H1 s1 hD1 => ?_)
  · obtain ⟨o1, rfl⟩ := hσ
    obtain rfl := num_at im
    refine ⟨_, rfl, _, _, rfl, rfl, _, rfl, a, _, rfl, .inr (SqT.of (s2 _ _ (ha))), rfl, flat_nums row, _, rfl, ?_⟩
    rw [in_nums, if_pos rfl]
    by_cases m : row.getD i 0 - 1 ∈ row
    · rw [decide_eq_true m]
      exact iteF (hS (decide_eq_false fun z => z m) _ _ ⟨_, rfl⟩ (Same.refl _))
    · rw [decide_eq_false m]
      exact iteT ⟨_, rfl, hR (decide_eq_true m) _ _ _ ⟨_, rfl⟩ (Same.refl _) rfl⟩
  rw [List.length_map, BB.sel_list 0 row (fun p => decide (p - 1 ∉ row)) V.int] at hD1
  have hF : H1 D1 = some (.lst (((BB.blk row).map (·.1)).map V.int)) := by rw [← firsts_of up]; exact hD1
  refine ⟨_, rfl, a, rfl, ⟨_, SqT.of (s1 _ _ ha)⟩, fun D2 hD2 => ?_⟩
  refine comp_sel (row.map V.int).length (by rw [List.length_map, sizeLine_eq]; omega) (fun i => decide (row.getD i 0 + 1 ∉ row)) (fun i => .int (row.getD i 0)) (fun σ => ∃ o1, σ = [o1, some (.ref a)]) _ hD2 (by exact ⟨_, rfl⟩) (items_tup (s1 _ _ ha)) (fun i x σ' H2 hi s2 im hσ R S hR hS => ?_) (fun H3 s3 hD3 => ?_)
  · obtain ⟨o1, rfl⟩ := hσ
    obtain rfl := num_at im
    refine ⟨_, rfl, _, _, rfl, rfl, _, rfl, a, _, rfl, .inr (SqT.of (s2 _ _ (s1 _ _ ha))), rfl, flat_nums row, _, rfl, ?_⟩
    rw [in_nums, if_pos rfl]
    by_cases m : row.getD i 0 + 1 ∈ row
    · rw [decide_eq_true m]
      exact iteF (hS (decide_eq_false fun z => z m) _ _ ⟨_, rfl⟩ (Same.refl _))
    · rw [decide_eq_false m]
      exact iteT ⟨_, rfl, hR (decide_eq_true m) _ _ _ ⟨_, rfl⟩ (Same.refl _) rfl⟩
  rw [List.length_map, BB.sel_list 0 row (fun p => decide (p + 1 ∉ row)) V.int] at hD3
  have hL : H3 D2 = some (.lst (((BB.blk row).map fun q => q.1 + q.2 - 1).map V.int)) := by rw [← lasts_of up]; exact hD3
  have hF3 := s3 _ _ hF
  have bl := blk_len row
  refine ⟨_, rfl, _, rfl, D1, D2, _, _, rfl, SqL.of hF3, SqL.of hL, fun D hD => ?_⟩
  have im := items_zipL (K := K) hF3 hL
  have hn : min (((BB.blk row).map (·.1)).map V.int).length (((BB.blk row).map fun q => q.1 + q.2 - 1).map V.int).length = (BB.blk row).length := by simp
  rw [hn] at im
  refine comp_tups (BB.blk row).length (by rw [sizeLine_eq]; omega) (fun i => [.int ((BB.blk row).getD i (0, 0)).1, .int ((BB.blk row).getD i (0, 0)).2]) (fun σ => ∃ o1 o2, σ = [o1, o2]) _ hD ⟨_, _, rfl⟩ im (fun i x σ' H4 hi s4 im' hσ R hR => ?_) (fun H' ys s' hD' ly hy => ?_)
  · obtain ⟨o1, o2, rfl⟩ := hσ
    obtain ⟨r, y, z, rfl, hr', hy, hz'⟩ := im'
    rw [List.getElem?_map, List.getElem?_map, List.getElem?_eq_getElem hi] at hy hz'
    obtain rfl : V.int (BB.blk row)[i].1 = y := Option.some.inj hy
    obtain rfl : V.int ((BB.blk row)[i].1 + (BB.blk row)[i].2 - 1) = z := Option.some.inj hz'
    refine ⟨r, _, rfl, SqT.of hr', rfl, _, _, rfl, _, _, rfl, rfl, ?_⟩
    refine ⟨_, rfl, _, rfl, _, rfl, _, _, rfl, rfl, _, _, rfl, rfl, (by show 2 ≤ sizeLine; decide), fun p hp => ?_⟩
    refine hR _ p _ ⟨_, _, rfl⟩ (same_new hp _) ?_
    rw [upd_same, List.getD_eq_getElem?_getD, List.getElem?_eq_getElem hi]
    show some (HO.tup [V.int (BB.blk row)[i].1, V.int ((BB.blk row)[i].1 + (BB.blk row)[i].2 - 1 - (BB.blk row)[i].1 + 1)]) = some (HO.tup [V.int (BB.blk row)[i].1, V.int (BB.blk row)[i].2])
    rw [show (BB.blk row)[i].1 + (BB.blk row)[i].2 - 1 - (BB.blk row)[i].1 + 1 = (BB.blk row)[i].2 by omega]
  · refine q D ys H' (s1.trans (s3.trans s')) hD' ⟨ly, fun j b e => ?_⟩
    have jl : j < ys.length := by rw [ly]; exact (List.getElem?_eq_some_iff.mp e).1
    obtain ⟨p, e1, e2⟩ := hy j _ (List.getElem?_eq_getElem jl)
    refine ⟨p, by rw [List.getElem?_eq_getElem jl, e1], ?_⟩
    rw [List.getD_eq_getElem?_getD, e] at e2
    exact e2
end
end K34
end
section
namespace K34
open PySem PySem.Spec PyProof.Rows L2
set_option maxHeartbeats 4000000
set_option maxRecDepth 100000
set_option Elab.async false
set_option linter.unusedVariables false
/-- a list of lists of ints -/
noncomputable def Ls (H : Hp) (xs : List V) (R : List (List Int)) : Prop := xs.length = R.length ∧ ∀ (j : Nat) (r : List Int), R[j]? = some r → ∃ p, xs[j]? = some (.ref p) ∧ H p = some (.lst (r.map V.int))
theorem Ls.keep {H H' : Hp} {xs : List V} {R : List (List Int)} (t : Ls H xs R) (k : ∀ (j : Nat) p zs, xs[j]? = some (.ref p) → H p = some (.lst zs) → H' p = some (.lst zs)) : Ls H' xs R := ⟨t.1, fun j r e => let ⟨p, a, c⟩ := t.2 j r e; ⟨p, a, k j p _ a c⟩⟩
theorem Ls.same {H H' : Hp} {xs : List V} {R : List (List Int)} (t : Ls H xs R) (s : Same H H') : Ls H' xs R := t.keep fun _ _ _ _ c => s _ _ c
theorem Ls.snoc {H : Hp} {xs : List V} {R : List (List Int)} {p : Addr} {r : List Int} (t : Ls H xs R) (h : H p = some (.lst (r.map V.int))) : Ls H (xs ++ [.ref p]) (R ++ [r]) := by
  refine ⟨by rw [List.length_append, List.length_append, t.1]; rfl, fun j c e => ?_⟩
  by_cases z : j < R.length
  · rw [List.getElem?_append_left z] at e
    obtain ⟨q, e1, e2⟩ := t.2 j c e
    exact ⟨q, by rw [List.getElem?_append_left (by rw [t.1]; exact z)]; exact e1, e2⟩
  · have jl : j < (R ++ [r]).length := (List.getElem?_eq_some_iff.mp e).1
    have jj : j = R.length := by rw [List.length_append, List.length_singleton] at jl; omega
    subst jj
    rw [List.getElem?_append_right (Nat.le_refl _), Nat.sub_self] at e
    cases e
    exact ⟨p, by rw [← t.1, List.getElem?_append_right (Nat.le_refl _), Nat.sub_self]; rfl, h⟩
theorem Ls.get {H : Hp} {xs : List V} {R : List (List Int)} (t : Ls H xs R) {j : Nat} (h : j < R.length) : ∃ p, xs[j]? = some (.ref p) ∧ H p = some (.lst ((R.getD j []).map V.int)) := by
  obtain ⟨p, e1, e2⟩ := t.2 j _ (List.getElem?_eq_getElem h)
  exact ⟨p, e1, by rw [List.getD_eq_getElem?_getD, List.getElem?_eq_getElem h]; exact e2⟩
/-- how long the empty run behind a block is -/
noncomputable def gapN (c : Nat) (bl : List (Int × Int)) (j : Nat) : Nat := match bl[j + 1]? with
  | some q => min c (q.1 - (bl.getD j (0, 0)).1 - (bl.getD j (0, 0)).2).toNat
  | none => c
noncomputable def two (c : Nat) (bl : List (Int × Int)) (j : Nat) : List (List Int) := [BB.rg (bl.getD j (0, 0)).1 (bl.getD j (0, 0)).2.toNat, BB.rg ((bl.getD j (0, 0)).1 + (bl.getD j (0, 0)).2) (gapN c bl j)]
noncomputable def prI (c : Nat) (bl : List (Int × Int)) (i : Nat) : List (List Int) := (List.range i).flatMap (two c bl)
theorem prI_succ (c : Nat) (bl : List (Int × Int)) (i : Nat) : prI c bl (i + 1) = prI c bl i ++ two c bl i := by
  unfold prI
  rw [List.range_succ, List.flatMap_append]
  simp
theorem prI_len (c : Nat) (bl : List (Int × Int)) : ∀ i, (prI c bl i).length = 2 * i
  | 0 => rfl
  | i + 1 => by rw [prI_succ, List.length_append, prI_len c bl i]; show 2 * i + 2 = _; omega
theorem prI_all (c : Nat) : ∀ bl : List (Int × Int), prI c bl bl.length = BB.pr c bl
  | [] => rfl
  | [(f, m)] => by
    show (List.range 1).flatMap _ = _
    rw [show List.range 1 = [0] from rfl]
    rfl
  | (f, m) :: (f', m') :: r => by
    have ih := prI_all c ((f', m') :: r)
    unfold prI at ih ⊢
    rw [show ((f, m) :: (f', m') :: r).length = ((f', m') :: r).length + 1 from rfl, List.range_succ_eq_map, List.flatMap_cons, List.flatMap_map]
    show two c ((f, m) :: (f', m') :: r) 0 ++ (List.range ((f', m') :: r).length).flatMap (two c ((f', m') :: r)) = _
    rw [ih]
    rfl
theorem cut_one (xs : List V) (k : Nat) : cutV xs (some (k : Int)) (some ((k + 1 : Nat) : Int)) = (xs.drop k).take 1 := by
  unfold cutV
  rw [HT.sIx_nat, HT.sIx_nat]
  by_cases h : k < xs.length
  · rw [Nat.min_eq_left (by omega), Nat.min_eq_left (by omega), Nat.add_sub_cancel_left]
  · rw [Nat.min_eq_right (by omega), Nat.min_eq_right (by omega), Nat.sub_self, List.take_zero, List.drop_eq_nil_of_le (by omega), List.take_nil]
theorem end_is {bl : List (Int × Int)} {i N : Nat} {m : Int} (hm : m ∈ ((bl.getD i (0, 0)).1 + (bl.getD i (0, 0)).2 + (N : Int) + 1) :: ((bl.map (·.1)).drop (i + 1)).take 1) (hle : ∀ x ∈ ((bl.getD i (0, 0)).1 + (bl.getD i (0, 0)).2 + (N : Int) + 1) :: ((bl.map (·.1)).drop (i + 1)).take 1, m ≤ x) :
    (m - ((bl.getD i (0, 0)).1 + (bl.getD i (0, 0)).2)).toNat = gapN (N + 1) bl i := by
  unfold gapN
  cases e : bl[i + 1]? with
  | none =>
    have z : ((bl.map (·.1)).drop (i + 1)).take 1 = [] := by
      rw [List.drop_eq_nil_of_le (by rw [List.length_map]; exact List.getElem?_eq_none_iff.mp e), List.take_nil]
    rw [z, List.mem_singleton] at hm
    show _ = N + 1
    omega
  | some q =>
    have il := (List.getElem?_eq_some_iff.mp e).1
    have z : ((bl.map (·.1)).drop (i + 1)).take 1 = [q.1] := by
      rw [List.drop_eq_getElem_cons (by rw [List.length_map]; exact il)]
      have : (bl.map (·.1))[i + 1]'(by rw [List.length_map]; exact il) = q.1 := by
        rw [List.getElem_map]
        rw [List.getElem?_eq_getElem il] at e
        rw [Option.some.inj e]
      rw [this]
      rfl
    rw [z] at hm hle
    have h1 := hle _ List.mem_cons_self
    have h2 := hle q.1 (by simp)
    show _ = min (N + 1) (q.1 - (bl.getD i (0, 0)).1 - (bl.getD i (0, 0)).2).toNat
    rcases List.mem_cons.mp hm with w | w
    · omega
    · have := List.mem_singleton.mp w
      omega
noncomputable def spRuns : Sp := fun vs H Q _ => ∃ (a : Addr) (row : List Int), vs = [.ref a] ∧ H a = some (.tup (row.map V.int)) ∧ row.Pairwise (· < ·) ∧ row.length ≤ 12 ∧ (∀ p ∈ row, -4000000000 ≤ p ∧ p ≤ 4000000000) ∧
  ∀ (r : Addr) (xs : List V) (H' : Hp), Same H H' → H' r = some (.lst xs) → Ls H' xs (BB.pr (row.length + 1) (BB.blk row)) → Q (.ref r) H'
noncomputable def spFs : Sp := fun vs H Q _ => ∃ (a : Addr) (xs : List V) (R : List (List Int)), vs = [.ref a] ∧ H a = some (.lst xs) ∧ Ls H xs R ∧ BB.fs R + 1 < R.length ∧ (R.getD (BB.fs R) []).length ≤ (R.getD (BB.fs R + 1) []).length ∧
  ∀ H', Same H H' → Q (.int (BB.fs R : Int)) H'
theorem tps_get {H : Hp} {xs : List V} {bl : List (Int × Int)} (t : Tps H xs bl) {i : Nat} {x : V} (h : xs[i]? = some x) : ∃ (p : Addr) (b : Int × Int), x = .ref p ∧ bl[i]? = some b ∧ H p = some (.tup [.int b.1, .int b.2]) := by
  have il : i < bl.length := by rw [← t.1]; exact (List.getElem?_eq_some_iff.mp h).1
  obtain ⟨p, e1, e2⟩ := t.2 i _ (List.getElem?_eq_getElem il)
  rw [h] at e1
  exact ⟨p, _, Option.some.inj e1, List.getElem?_eq_getElem il, e2⟩
theorem snoc2 {α : Type} (l : List α) (x y : α) : l ++ [x, y] = (l ++ [x]) ++ [y] := by simp
/-- a run is put to the runs -/
theorem app_run {H2 H : Hp} {U p l : Addr} {zs : List V} {R : List (List Int)} {r : List Int} {o : HO} (sm : Same H2 H) (u2 : H2 U = none) (hz : H U = some (.lst zs)) (ls : Ls H zs R) (hp : H p = none) (hl : (upd H p o) l = none) :
    (upd (upd H p o) l (.lst (r.map V.int))) U = some (.lst zs) ∧ Same H2 (upd (upd (upd H p o) l (.lst (r.map V.int))) U (.lst (zs ++ [.ref l]))) ∧ (upd (upd (upd H p o) l (.lst (r.map V.int))) U (.lst (zs ++ [.ref l]))) U = some (.lst (zs ++ [.ref l])) ∧
    Ls (upd (upd (upd H p o) l (.lst (r.map V.int))) U (.lst (zs ++ [.ref l]))) (zs ++ [.ref l]) (R ++ [r]) := by
  have k : Same H (upd (upd H p o) l (.lst (r.map V.int))) := (same_new hp o).trans (same_new hl _)
  have lU : l ≠ U := fun z => by
    rw [z, same_new hp o _ _ hz] at hl
    cases hl
  refine ⟨k _ _ hz, fun c o' e => ?_, upd_same, ?_⟩
  · rw [upd_ne (ne_of_none e u2)]
    exact k _ _ (sm _ _ e)
  · refine Ls.snoc (⟨ls.1, fun j r' e => ?_⟩ : Ls _ zs R) (by rw [upd_ne lU, upd_same])
    obtain ⟨q, e1, e2⟩ := ls.2 j r' e
    refine ⟨q, e1, ?_⟩
    rw [upd_ne (fun z => ?_)]
    · exact k _ _ e2
    · rw [z, hz] at e2
      have e3 : zs = r'.map V.int := HO.lst.inj (Option.some.inj e2)
      rw [e3, List.getElem?_map] at e1
      cases e4 : r'[j]? with
      | none => rw [e4] at e1; cases e1
      | some x => rw [e4] at e1; cases e1
structure NbE (mg : Str → Option Value) : Prop extends Nb3 mg where
  enum : mg "enumerate" = none
section
variable {P : Program} {w : World} {K : PySem.W.Frag} {mg : Str → Option Value} {base : Heap}
set_option maxRecDepth 100000 in
theorem ok_runs_in {f : Addr} {fd : FuncData} (F : Fun K "runs_in" "runs_in" s_runs_in f fd) (nb : NbE mg) (h_blocks_in : Has P w K mg base 1 "blocks_in" ["row"] spBin)  :
    FnOk P w K mg base CX0 2 f fd ["row"] spRuns := by
  have nd := sc_runs_in.nd
  refine F.ok (k := 1) sc_runs_in (fun vs H Q E h => ?_) (fun cdv A outer s H vs Q E hr h => ?_)
  · obtain ⟨a, row, rfl, _⟩ := h
    rfl
  obtain ⟨a, row, rfl, ha, up, r12, bd, q⟩ := h
  refine ⟨_, (pss_cons (ps_set (i := 1) nd rfl (Or.inl rfl) (pe_def h_blocks_in hr (pa_cons (pv 0) pa_nil)))
(pss_cons (ps_comp2 (ii := 2) nd rfl (Or.inl rfl) (sc := defScope s_runs_in) (N0 := ["row", "found", "starts", "runs", "at", "first", "many", "behind", "end"]) (N := []) (js := []) rfl rfl rfl (by exact ⟨rfl, by decide +kernel, by decide +kernel, by decide +kernel, rfl, rfl, by decide, by decide +kernel, by decide +kernel⟩) rfl rfl
(pi_list (pv 1))
(fun _ _ _ _ _ => by exact pts_nil)
(fun _ _ _ _ _ => by exact (pv 0)))
(pss_cons (ps_set (i := 3) nd rfl (Or.inl rfl) (pe_lst pa_nil))
(pss_cons (ps_for PassesOwn.never rfl (pi_enum rfl nb.enum (pa_cons (pv 1) pa_nil)) (pg_tup rfl (pgs_cons (pg_name (i := 4) nd rfl (Or.inl rfl)) (pgs_cons (pg_tup rfl (pgs_cons (pg_name (i := 5) nd rfl (Or.inl rfl)) (pgs_cons (pg_name (i := 6) nd rfl (Or.inl rfl)) pgs_nil))) pgs_nil)))
(pss_cons (ps_set (i := 7) nd rfl (Or.inl rfl) (pe_op op_add (pv 5) (pv 6)))
(pss_cons (ps_set (i := 8) nd rfl (Or.inl rfl) (pe_callB (call_minL rfl) rfl nb.min boot_min (pa_cons (pe_op op_cat (pe_lst (pa_cons (pe_op op_add (pe_op op_add (pv 7) (pe_callB call_len_seq rfl nb.len PySem.boot_len (pa_cons (pv 0) pa_nil))) pe_int) pa_nil)) (pe_slice sl_list (pv 2) (po_some (pe_op op_add (pv 4) pe_int)) (po_some (pe_op op_add (pv 4) pe_int)))) pa_nil)))
(pss_cons (ps_expr (pe_bm PySem.F.plainAttrs_list PySem.F.slot_list_append PySem.F.type_list_append mt_append (pv 3) (pa_cons (pe_callTy (call_list_rng rfl) rfl nb.list boot_list (pa_cons (pe_callTy call_rng2 rfl nb.range boot_range (pa_cons (pv 5) (pa_cons (pv 7) pa_nil))) pa_nil)) pa_nil)))
(pss_one (ps_expr (pe_bm PySem.F.plainAttrs_list PySem.F.slot_list_append PySem.F.type_list_append mt_append (pv 3) (pa_cons (pe_callTy (call_list_rng rfl) rfl nb.list boot_list (pa_cons (pe_callTy call_rng2 rfl nb.range boot_range (pa_cons (pv 7) (pa_cons (pv 8) pa_nil))) pa_nil)) pa_nil))))))))
(pss_one (ps_ret (pv 3))))))), ?_⟩
  refine ⟨_, rfl, a, row, rfl, ha, up, r12, fun rf ys H1 s1 h1 tp => ?_⟩
  have bal := BB.blk_all row
  have bln := blk_len row
  have ly := tp.1
  generalize hbl : BB.blk row = bl at tp bal bln ly q
  -- where they start
  refine ⟨_, rfl, rf, rfl, ⟨_, SqL.of h1⟩, fun D hD => ?_⟩
  refine comp_go ys.length (by rw [sizeLine_eq]; omega) (fun i => .int (bl.getD i (0, 0)).1) (fun σ => ∃ o1 o2, σ = [o1, o2]) _ hD (by exact ⟨_, _, rfl⟩) (items_lst h1) (fun i z σ' H2 hi s2 im hσ R hR => ?_) (fun H2 s2 hD2 => ?_)
  · obtain ⟨o1, o2, rfl⟩ := hσ
    obtain ⟨p, b, rfl, eb, hp⟩ := tps_get tp im
    exact ⟨p, _, rfl, SqT.of (s2 _ _ hp), rfl, _, _, rfl, _, _, rfl, rfl, _, rfl, hR _ _ _ ⟨_, _, rfl⟩ (Same.refl _) (by rw [getD_at eb])⟩
  have eD : H2 D = some (.lst ((bl.map (·.1)).map V.int)) := by
    rw [hD2, ly, BB.all_list (0, 0) bl (fun q => V.int q.1), List.map_map]
    rfl
  have S2 := s1.trans s2
  have h12 := s2 _ _ h1
  have tp2 := tp.same s2
  refine ⟨(by show 0 ≤ sizeLine; decide), fun U hU => ?_⟩
  have sU := same_new hU (.lst [])
  refine ⟨_, rfl, rf, _, rfl, SqL.of (sU _ _ h12), ?_⟩
  refine for_items ys.length (fun i H3 v => ∃ p x, v = .ref p ∧ H3 p = some (.tup [.int i, x]) ∧ ys[i]? = some x) (fun i σ H' => ∃ o4 o5 o6 o7 o8 zs, σ = [some (.ref a), some (.ref rf), some (.ref D), some (.ref U), o4, o5, o6, o7, o8] ∧ Same H2 H' ∧ H' U = some (.lst zs) ∧ Ls H' zs (prI (row.length + 1) bl i)) ⟨_, _, _, _, _, [], rfl, sU, upd_same, rfl, fun j r e => by cases e⟩ (fun i σ H' hi hp => ?_) (fun i x σ H' H4 hi hp s4 im => ?_) (fun σ H' hp => ?_)
  · obtain ⟨o4, o5, o6, o7, o8, zs, rfl, sm, _⟩ := hp
    exact items_enum (sm _ _ h12) i H' (Same.refl _)
  · obtain ⟨o4, o5, o6, o7, o8, zs, rfl, sm, hz, ls⟩ := hp
    obtain ⟨p, v, rfl, hp, hv⟩ := im
    obtain ⟨pb, b, rfl, eb, hpb⟩ := tps_get tp2 hv
    have S4 := sm.trans s4
    have bm : b ∈ bl := List.mem_of_getElem? eb
    obtain ⟨b1, b2, b3⟩ := bal.1 b bm
    have bb := bd _ b1
    have gb := getD_at eb
    refine ⟨p, _, rfl, SqT.of hp, rfl, _, _, rfl, _, _, rfl, pb, _, rfl, SqT.of (S4 _ _ hpb), rfl, _, _, rfl, _, _, rfl, rfl, rfl, ?_⟩
    -- behind, and the end
    refine ⟨_, rfl, _, rfl, _, _, rfl, rfl, ?_⟩
    refine ⟨_, rfl, _, rfl, a, _, rfl, .inr (SqT.of (S4 _ _ (S2 _ _ ha))), _, _, rfl, rfl, _, _, rfl, rfl, (by show 1 ≤ sizeLine; decide), fun l1 hl1 => ?_⟩
    have ml : (row.map V.int).length = row.length := List.length_map ..
    have k1 := same_new hl1 (.lst [.int (b.1 + b.2 + ((row.map V.int).length : Int) + 1)])
    refine ⟨_, rfl, _, rfl, _, _, rfl, rfl, _, rfl, _, rfl, _, _, rfl, rfl, _, rfl, D, _, rfl, SqL.of (k1 _ _ (S4 _ _ eD)), fun l2 hl2 => ?_⟩
    have ec : cutV ((bl.map (·.1)).map V.int) (some ((i : Int) + 1)) (some ((i : Int) + 2)) = (((bl.map (·.1)).drop (i + 1)).take 1).map V.int := by
      rw [show ((i : Int) + 1) = ((i + 1 : Nat) : Int) by omega, show ((i : Int) + 2) = ((i + 1 + 1 : Nat) : Int) by omega, cut_one, List.map_take, List.map_drop]
    rw [ec]
    have k2 := same_new hl2 (.lst ((((bl.map (·.1)).drop (i + 1)).take 1).map V.int))
    have f1 := k2 _ _ (show (upd H4 l1 (.lst [.int (b.1 + b.2 + ((row.map V.int).length : Int) + 1)])) l1 = some (.lst [.int (b.1 + b.2 + ((row.map V.int).length : Int) + 1)]) from upd_same)
    refine ⟨l1, l2, _, _, rfl, rfl, f1, upd_same, by rw [sizeLine_eq, List.length_map (f := V.int) (as := ((bl.map (·.1)).drop (i + 1)).take 1), List.length_take]; show 1 + _ ≤ _; omega, fun L hL => ?_⟩
    have k3 := same_new hL (.lst ([.int (b.1 + b.2 + ((row.map V.int).length : Int) + 1)] ++ (((bl.map (·.1)).drop (i + 1)).take 1).map V.int))
    refine ⟨L, (b.1 + b.2 + ((row.map V.int).length : Int) + 1) :: ((bl.map (·.1)).drop (i + 1)).take 1, rfl, SqL.of upd_same, by simp, fun m hm hle => ?_⟩
    have k5 := k1.trans (k2.trans k3)
    have S5 := S4.trans k5
    have hz5 := k5 _ _ (s4 _ _ hz)
    have ls5 := (ls.same s4).same k5
    generalize upd (upd (upd H4 l1 (.lst [.int (b.1 + b.2 + ((row.map V.int).length : Int) + 1)])) l2 (.lst ((((bl.map (·.1)).drop (i + 1)).take 1).map V.int))) L (.lst ([.int (b.1 + b.2 + ((row.map V.int).length : Int) + 1)] ++ (((bl.map (·.1)).drop (i + 1)).take 1).map V.int)) = H5 at S5 hz5 ls5 ⊢
    rw [ml] at hm hle
    have eN := end_is (bl := bl) (i := i) (N := row.length) (m := m) (by rw [gb]; exact hm) (by rw [gb]; exact hle)
    rw [gb] at eN
    have m1 := hle _ List.mem_cons_self
    have m0 : -4000000000 ≤ m := by
      rcases List.mem_cons.mp hm with w | w
      · omega
      · have w2 := List.mem_of_mem_drop (List.mem_of_mem_take w)
        obtain ⟨b', hb', rfl⟩ := List.mem_map.mp w2
        exact (bd _ (bal.1 b' hb').1).1
    have g13 : gapN (row.length + 1) bl i ≤ 13 := by omega
    have lp := prI_len (row.length + 1) bl i
    have lzs : zs.length = 2 * i := by rw [ls.1, lp]
    -- the run of balls
    refine ⟨_, rfl, .inl ⟨rfl, _, SqL.of hz5⟩, _, rfl, _, rfl, _, _, rfl, fun p1 hp1 => ?_⟩
    refine ⟨p1, _, _, rfl, upd_same, ⟨by omega, by omega, by omega, by omega⟩, by rw [sizeLine_eq]; omega, fun l3 hl3 => ?_⟩
    rw [show (b.1 + b.2 - b.1).toNat = b.2.toNat by congr 1; omega]
    obtain ⟨a1, a2, a3, a4⟩ := app_run (r := BB.rg b.1 b.2.toNat) S5 hU hz5 ls5 hp1 hl3
    refine ⟨U, _, _, rfl, rfl, a1, by rw [sizeLine_eq]; omega, ?_⟩
    -- the run of empty boxes
    refine ⟨_, rfl, .inl ⟨rfl, _, SqL.of a3⟩, _, rfl, _, rfl, _, _, rfl, fun p2 hp2 => ?_⟩
    refine ⟨p2, _, _, rfl, upd_same, ⟨by omega, by omega, by omega, by omega⟩, by rw [sizeLine_eq]; omega, fun l4 hl4 => ?_⟩
    rw [eN]
    obtain ⟨c1, c2, c3, c4⟩ := app_run (r := BB.rg (b.1 + b.2) (gapN (row.length + 1) bl i)) a2 hU a3 a4 hp2 hl4
    refine ⟨U, _, _, rfl, rfl, c1, by rw [List.length_append, sizeLine_eq]; show _ + 1 + 1 ≤ _; omega, ?_⟩
    refine ⟨_, _, _, _, _, _, rfl, c2, c3, ?_⟩
    rw [prI_succ]
    unfold two
    rw [gb, snoc2]
    exact c4
  · obtain ⟨o4, o5, o6, o7, o8, zs, rfl, sm, hz, ls⟩ := hp
    rw [ly, prI_all] at ls
    exact ⟨_, rfl, q U zs H' (S2.trans sm) hz ls⟩
end
end K34
end
section
namespace K34
open PySem PySem.Spec PyProof.Rows L2
set_option maxHeartbeats 4000000
set_option maxRecDepth 100000
set_option Elab.async false
set_option linter.unusedVariables false
theorem Ls.drop {H : Hp} {xs : List V} {R : List (List Int)} (t : Ls H xs R) (k : Nat) : Ls H (xs.drop k) (R.drop k) := by
  refine ⟨by rw [List.length_drop, List.length_drop, t.1], fun j r e => ?_⟩
  rw [List.getElem?_drop] at e
  obtain ⟨p, e1, e2⟩ := t.2 _ r e
  exact ⟨p, by rw [List.getElem?_drop]; exact e1, e2⟩
theorem Ls.take {H : Hp} {xs : List V} {R : List (List Int)} (t : Ls H xs R) (k : Nat) : Ls H (xs.take k) (R.take k) := by
  refine ⟨by rw [List.length_take, List.length_take, t.1], fun j r e => ?_⟩
  by_cases c : j < k
  · rw [List.getElem?_take_of_lt c] at e
    obtain ⟨p, e1, e2⟩ := t.2 _ r e
    exact ⟨p, by rw [List.getElem?_take_of_lt c]; exact e1, e2⟩
  · rw [List.getElem?_eq_none (by rw [List.length_take]; omega)] at e
    cases e
theorem Ls.app {H : Hp} {xs ys : List V} {R S : List (List Int)} (t : Ls H xs R) (u : Ls H ys S) : Ls H (xs ++ ys) (R ++ S) := by
  refine ⟨by rw [List.length_append, List.length_append, t.1, u.1], fun j r e => ?_⟩
  by_cases z : j < R.length
  · rw [List.getElem?_append_left z] at e
    obtain ⟨p, e1, e2⟩ := t.2 j r e
    exact ⟨p, by rw [List.getElem?_append_left (by rw [t.1]; exact z)]; exact e1, e2⟩
  · rw [List.getElem?_append_right (by omega)] at e
    obtain ⟨p, e1, e2⟩ := u.2 _ r e
    exact ⟨p, by rw [List.getElem?_append_right (by rw [t.1]; omega), t.1]; exact e1, e2⟩
theorem Ls.one {H : Hp} {p : Addr} {r : List Int} (h : H p = some (.lst (r.map V.int))) : Ls H [.ref p] [r] := Ls.snoc (xs := []) (R := []) ⟨rfl, fun j r e => by cases e⟩ h
noncomputable def stj (σ : L2.St) : Int := match σ[1]? with
  | some (some (V.int x)) => x
  | _ => 0
noncomputable def spWo : Sp := fun vs H Q _ => ∃ (a : Addr) (xs : List V) (pre post : List (List Int)) (s g : List Int), vs = [.ref a, .int (pre.length : Int)] ∧ H a = some (.lst xs) ∧ Ls H xs (pre ++ s :: g :: post) ∧ (pre ++ s :: g :: post).length ≤ 1000 ∧ (∀ r ∈ pre ++ s :: g :: post, r.length ≤ 1000) ∧
  ∀ (r : Addr) (ys : List V) (H' : Hp), Same H H' → H' r = some (.lst ys) → Ls H' ys (BB.wo (pre ++ s :: g :: post) pre.length) → Q (.ref r) H'
section
variable {P : Program} {w : World} {K : PySem.W.Frag} {mg : Str → Option Value} {base : Heap}
set_option maxRecDepth 100000 in
theorem ok_first_short {f : Addr} {fd : FuncData} (F : Fun K "first_short" "first_short" s_first_short f fd) (nb : NbE mg)   :
    FnOk P w K mg base CX0 1 f fd ["runs"] spFs := by
  have nd := sc_first_short.nd
  refine F.ok (k := 0) sc_first_short (fun vs H Q E h => ?_) (fun cdv A outer s H vs Q E hr h => ?_)
  · obtain ⟨a, xs, R, rfl, _⟩ := h
    rfl
  obtain ⟨a, xs, R, rfl, ha, ls, l1, l2, q⟩ := h
  refine ⟨_, (pss_cons (ps_set (i := 1) nd rfl (Or.inl rfl) pe_int)
(pss_cons (ps_while PassesOwn.never (pt_cmpR op_gt (pe_callB call_len_seq rfl nb.len PySem.boot_len (pa_cons (pe_ix ix_list (pv 0) (pv 1) (fun _ _ => rfl)) pa_nil)) (pe_callB call_len_seq rfl nb.len PySem.boot_len (pa_cons (pe_ix ix_list (pv 0) (pe_op op_add (pv 1) pe_int) (fun _ _ => rfl)) pa_nil)) (nomark _))
(pss_one (ps_aug (i := 1) nd rfl (Or.inl rfl) pe_int ip_add)))
(pss_one (ps_ret (pv 1))))), ?_⟩
  refine while_by (fun σ H' => Same H H' ∧ ∃ j : Nat, σ = [some (.ref a), some (.int (j : Int))] ∧ j ≤ BB.fs R) (fun σ _ => ((BB.fs R : Int) - stj σ).toNat) ⟨Same.refl H, 0, rfl, Nat.zero_le _⟩ (fun σ H1 hp => ?_) (fun σ H Q Q' hq h => ?_)
  · obtain ⟨sm, j, rfl, hj⟩ := hp
    obtain ⟨p1, e1, f1⟩ := ls.get (j := j) (by omega)
    obtain ⟨p2, e2, f2⟩ := ls.get (j := j + 1) (by omega)
    refine ⟨_, rfl, _, rfl, a, _, _, _, rfl, rfl, SqL.of (sm _ _ ha), atI_nat e1, p1, _, rfl, .inl (SqL.of (sm _ _ f1)), ?_⟩
    refine ⟨_, rfl, _, rfl, _, _, rfl, rfl, a, _, _, _, rfl, rfl, SqL.of (sm _ _ ha), (show atI xs ((j : Int) + 1) = some (.ref p2) by rw [show ((j : Int) + 1) = ((j + 1 : Nat) : Int) by omega]; exact atI_nat e2), p2, _, rfl, .inl (SqL.of (sm _ _ f2)), _, _, rfl, rfl, _, rfl, ?_⟩
    rw [List.length_map, List.length_map]
    by_cases c : j < BB.fs R
    · have := BB.fs_lt R j c
      rw [decide_eq_true (by omega)]
      refine iteT ?_
      refine ⟨_, rfl, _, _, rfl, rfl, ⟨sm, j + 1, by rw [show ((j + 1 : Nat) : Int) = (j : Int) + 1 by omega]; rfl, c⟩, ?_⟩
      show ((BB.fs R : Int) - ((j : Int) + 1)).toNat < ((BB.fs R : Int) - (j : Int)).toNat
      omega
    · have ej : j = BB.fs R := by omega
      subst ej
      rw [decide_eq_false (by omega)]
      exact iteF ⟨_, rfl, q H1 sm⟩
  · obtain ⟨v1, x1, v2, x2, a1, b1, c1, d1, x3, x4, x5, x6, p1, y1, x7, x8, h⟩ := h
    obtain ⟨v3, x9, v4, xa, i1, i2, xb, xc, a2, b2, c2, d2, xd, xe, xf, xg, p2, y2, xh, xi, j1, j2, xj, xk, k, xl, h⟩ := h
    exact ⟨v1, x1, v2, x2, a1, b1, c1, d1, x3, x4, x5, x6, p1, y1, x7, x8, v3, x9, v4, xa, i1, i2, xb, xc, a2, b2, c2, d2, xd, xe, xf, xg, p2, y2, xh, xi, j1, j2, xj, xk, k, xl, hq _ _ h⟩
set_option maxRecDepth 100000 in
theorem ok_without_wave {f : Addr} {fd : FuncData} (F : Fun K "without_wave" "without_wave" s_without_wave f fd) (nb : NbE mg)   :
    FnOk P w K mg base CX0 1 f fd ["runs", "at"] spWo := by
  have nd := sc_without_wave.nd
  refine F.ok (k := 0) sc_without_wave (fun vs H Q E h => ?_) (fun cdv A outer s H vs Q E hr h => ?_)
  · obtain ⟨a, xs, pre, post, s, g, rfl, _⟩ := h
    rfl
  obtain ⟨a, xs, pre, post, s, g, rfl, ha, ls, rl, big, q⟩ := h
  refine ⟨_, (pss_cons (ps_if (pt_cmpR op_eq (pv 1) pe_int (nomark _))
(pss_one (ps_ret (pe_slice sl_list (pv 0) (po_some pe_int) po_none)))
pss_nil)
(pss_cons (ps_set (i := 2) nd rfl (Or.inl rfl) (pe_slice sl_list (pe_ix ix_list (pv 0) (pe_op op_add (pv 1) pe_int) (fun _ _ => rfl)) (po_some (pe_callB call_len_seq rfl nb.len PySem.boot_len (pa_cons (pe_ix ix_list (pv 0) (pv 1) (fun _ _ => rfl)) pa_nil))) po_none))
(pss_one (ps_ret (pe_op op_cat (pe_op op_cat (pe_slice sl_list (pv 0) po_none (po_some (pe_op op_sub (pv 1) pe_int))) (pe_lst (pa_cons (pe_op op_cat (pe_ix ix_list (pv 0) (pe_op op_sub (pv 1) pe_int) (fun _ _ => rfl)) (pv 2)) pa_nil))) (pe_slice sl_list (pv 0) (po_some (pe_op op_add (pv 1) pe_int)) po_none)))))), ?_⟩
  refine ⟨_, rfl, rfl, _, rfl, ?_⟩
  rcases List.eq_nil_or_concat pre with e | ⟨p, h, e⟩
  · subst e
    rw [decide_eq_true (show V.int ((([] : List (List Int)).length : Nat) : Int) = V.int 0 from rfl)]
    refine iteT ?_
    refine ⟨_, rfl, _, rfl, a, _, rfl, SqL.of ha, fun t ht => ?_⟩
    rw [show (2 : Int) = ((2 : Nat) : Int) from rfl, cut_from]
    exact q t _ _ (same_new ht _) upd_same ((ls.drop 2).same (same_new ht _))
  rw [List.concat_eq_append] at e
  subst e
  have ln : (p ++ [h]).length = p.length + 1 := by rw [List.length_append]; rfl
  rw [decide_eq_false (show ¬ V.int (((p ++ [h]).length : Nat) : Int) = V.int 0 from fun z => by have := V.int.inj z; omega)]
  refine iteF ?_
  have hpos : ∀ (A : List (List Int)) (x : List Int) (B : List (List Int)), A ++ x :: B = (p ++ [h]) ++ s :: g :: post → ∃ px, xs[A.length]? = some (.ref px) ∧ H px = some (.lst (x.map V.int)) ∧ x.length ≤ 1000 := fun A x B e => by
    rw [← e] at ls big
    obtain ⟨px, e1, e2⟩ := ls.2 A.length x (by rw [List.getElem?_append_right (Nat.le_refl _), Nat.sub_self]; rfl)
    exact ⟨px, e1, e2, big x (by simp)⟩
  obtain ⟨ph, eh, fh, bh⟩ := hpos p h (s :: g :: post) (by simp)
  obtain ⟨ps, es, fs_, bs⟩ := hpos (p ++ [h]) s (g :: post) rfl
  obtain ⟨pg, eg, fg, bg⟩ := hpos ((p ++ [h]) ++ [s]) g post (by simp)
  rw [List.length_append, ln] at eg
  rw [ln] at es ⊢
  have ps0 : ∀ {z : Int} {k : Nat} {x : V}, z = (k : Int) → xs[k]? = some x → atI xs z = some x := fun {z k x} e hx => by rw [e]; exact atI_nat hx
  -- the rest
  refine ⟨_, rfl, _, rfl, _, _, rfl, rfl, a, _, _, _, rfl, rfl, SqL.of ha, ps0 (k := p.length + 1 + 1) (by omega) eg, ?_⟩
  refine ⟨_, rfl, _, rfl, a, _, _, _, rfl, rfl, SqL.of ha, ps0 rfl es, ps, _, rfl, .inl (SqL.of fs_), _, rfl, pg, _, rfl, SqL.of fg, fun t1 ht1 => ?_⟩
  rw [cut_from, List.length_map, ← List.map_drop]
  have k1 := same_new ht1 (.lst ((g.drop s.length).map V.int))
  have f1 : (upd H t1 (.lst ((g.drop s.length).map V.int))) t1 = some (.lst ((g.drop s.length).map V.int)) := upd_same
  generalize upd H t1 (.lst ((g.drop s.length).map V.int)) = H1 at k1 f1 ⊢
  -- those ahead
  refine ⟨_, rfl, _, rfl, _, _, rfl, rfl, _, rfl, a, _, rfl, SqL.of (k1 _ _ ha), fun t2 ht2 => ?_⟩
  rw [show ((p.length + 1 : Nat) : Int) - 1 = ((p.length : Nat) : Int) by omega, cut_to]
  have k2 := same_new ht2 (.lst (xs.take p.length))
  have f2 : (upd H1 t2 (.lst (xs.take p.length))) t2 = some (.lst (xs.take p.length)) := upd_same
  generalize upd H1 t2 (.lst (xs.take p.length)) = H2 at k2 f2 ⊢
  have K2 := k1.trans k2
  -- the two that are put together
  refine ⟨_, rfl, _, rfl, _, _, rfl, rfl, a, _, _, _, rfl, rfl, SqL.of (K2 _ _ ha), ps0 (k := p.length) (by omega) eh, ?_⟩
  refine ⟨_, rfl, ph, t1, _, _, rfl, rfl, K2 _ _ fh, k2 _ _ f1, by rw [List.length_map, List.length_map, List.length_drop, sizeLine_eq]; omega, fun t3 ht3 => ?_⟩
  rw [← List.map_append]
  have k3 := same_new ht3 (.lst ((h ++ g.drop s.length).map V.int))
  have f3 : (upd H2 t3 (.lst ((h ++ g.drop s.length).map V.int))) t3 = some (.lst ((h ++ g.drop s.length).map V.int)) := upd_same
  generalize upd H2 t3 (.lst ((h ++ g.drop s.length).map V.int)) = H3 at k3 f3 ⊢
  refine ⟨(by show 1 ≤ sizeLine; decide), fun t4 ht4 => ?_⟩
  have k4 := same_new ht4 (.lst [.ref t3])
  have f4 : (upd H3 t4 (.lst [.ref t3])) t4 = some (.lst [.ref t3]) := upd_same
  generalize upd H3 t4 (.lst [.ref t3]) = H4 at k4 f4 ⊢
  have lx := ls.1
  refine ⟨t2, t4, _, _, rfl, rfl, k4 _ _ (k3 _ _ f2), f4, by rw [List.length_take, sizeLine_eq]; show _ + 1 ≤ _; omega, fun t5 ht5 => ?_⟩
  have k5 := same_new ht5 (.lst (xs.take p.length ++ [.ref t3]))
  have f5 : (upd H4 t5 (.lst (xs.take p.length ++ [.ref t3]))) t5 = some (.lst (xs.take p.length ++ [.ref t3])) := upd_same
  generalize upd H4 t5 (.lst (xs.take p.length ++ [.ref t3])) = H5 at k5 f5 ⊢
  have K5 := K2.trans (k3.trans (k4.trans k5))
  -- those behind
  refine ⟨_, rfl, _, rfl, _, _, rfl, rfl, _, rfl, a, _, rfl, SqL.of (K5 _ _ ha), fun t6 ht6 => ?_⟩
  rw [show ((p.length + 1 : Nat) : Int) + 2 = ((p.length + 3 : Nat) : Int) by omega, cut_from]
  have k6 := same_new ht6 (.lst (xs.drop (p.length + 3)))
  have f6 : (upd H5 t6 (.lst (xs.drop (p.length + 3)))) t6 = some (.lst (xs.drop (p.length + 3))) := upd_same
  generalize upd H5 t6 (.lst (xs.drop (p.length + 3))) = H6 at k6 f6 ⊢
  refine ⟨t5, t6, _, _, rfl, rfl, k6 _ _ f5, f6, by rw [List.length_append, List.length_take, List.length_drop, sizeLine_eq]; show _ + 1 + _ ≤ _; omega, fun t7 ht7 => ?_⟩
  have k7 := same_new ht7 (.lst ((xs.take p.length ++ [.ref t3]) ++ xs.drop (p.length + 3)))
  have K7 := K5.trans (k6.trans k7)
  refine q t7 _ _ K7 upd_same ?_
  rw [BB.wo_app]
  have T : (p ++ [h] ++ s :: g :: post).take p.length = p := by rw [List.append_assoc, List.take_left' rfl]
  have Dd : (p ++ [h] ++ s :: g :: post).drop (p.length + 3) = post := by
    rw [show p ++ [h] ++ s :: g :: post = (p ++ [h, s, g]) ++ post by simp]
    exact List.drop_left' (by simp)
  have l1 := ls.take p.length
  have l2 := ls.drop (p.length + 3)
  rw [T] at l1
  rw [Dd] at l2
  exact ((l1.same K7).app (Ls.one (k7 _ _ (k6 _ _ (k5 _ _ (k4 _ _ f3)))))).app (l2.same K7)
end
end K34
end
section
namespace K34
open PySem PySem.Spec PyProof.Rows L2
set_option maxHeartbeats 4000000
set_option maxRecDepth 100000
set_option Elab.async false
set_option linter.unusedVariables false
/-- a list of waves -/
noncomputable def Ws (H : Hp) (ys : List V) (W : List (List Int × List Int)) : Prop := ys.length = W.length ∧ ∀ (j : Nat) (z : List Int × List Int), W[j]? = some z → ∃ p pa pb, ys[j]? = some (.ref p) ∧ H p = some (.tup [.ref pa, .ref pb]) ∧ H pa = some (.tup (z.1.map V.int)) ∧ H pb = some (.tup (z.2.map V.int))
theorem Ws.keep {H H' : Hp} {ys : List V} {W : List (List Int × List Int)} (t : Ws H ys W) (k : ∀ p xs, H p = some (.tup xs) → H' p = some (.tup xs)) : Ws H' ys W := ⟨t.1, fun j z e => let ⟨p, pa, pb, a, b, c, d⟩ := t.2 j z e; ⟨p, pa, pb, a, k _ _ b, k _ _ c, k _ _ d⟩⟩
theorem Ws.same {H H' : Hp} {ys : List V} {W : List (List Int × List Int)} (t : Ws H ys W) (s : Same H H') : Ws H' ys W := t.keep fun _ _ e => s _ _ e
theorem Ws.snoc {H : Hp} {ys : List V} {W : List (List Int × List Int)} {p pa pb : Addr} {z : List Int × List Int} (t : Ws H ys W) (h : H p = some (.tup [.ref pa, .ref pb])) (h1 : H pa = some (.tup (z.1.map V.int))) (h2 : H pb = some (.tup (z.2.map V.int))) : Ws H (ys ++ [.ref p]) (W ++ [z]) := by
  refine ⟨by rw [List.length_append, List.length_append, t.1]; rfl, fun j c e => ?_⟩
  by_cases x : j < W.length
  · rw [List.getElem?_append_left x] at e
    obtain ⟨q, qa, qb, e1, e2⟩ := t.2 j c e
    exact ⟨q, qa, qb, by rw [List.getElem?_append_left (by rw [t.1]; exact x)]; exact e1, e2⟩
  · have jl : j < (W ++ [z]).length := (List.getElem?_eq_some_iff.mp e).1
    have jj : j = W.length := by rw [List.length_append, List.length_singleton] at jl; omega
    subst jj
    rw [List.getElem?_append_right (Nat.le_refl _), Nat.sub_self] at e
    cases e
    exact ⟨p, pa, pb, by rw [← t.1, List.getElem?_append_right (Nat.le_refl _), Nat.sub_self]; rfl, h, h1, h2⟩
theorem Ls.told {H : Hp} {t : Addr} {ys xs : List V} {R : List (List Int)} {W : List (List Int × List Int)} {o : HO} (ls : Ls H xs R) (ne : ∀ r ∈ R, r ≠ []) (ht : H t = some (.lst ys)) (ws : Ws H ys W) : Ls (upd H t o) xs R := by
  refine ⟨ls.1, fun j r e => ?_⟩
  obtain ⟨p, e1, e2⟩ := ls.2 j r e
  refine ⟨p, e1, ?_⟩
  rw [upd_ne (fun z => ?_)]
  · exact e2
  · rw [z, ht] at e2
    have e3 : ys = r.map V.int := HO.lst.inj (Option.some.inj e2)
    have r0 : 0 < r.length := List.length_pos_iff.mpr (ne r (List.mem_of_getElem? e))
    have w0 : 0 < W.length := by rw [← ws.1, e3, List.length_map]; exact r0
    obtain ⟨q, qa, qb, f1, _⟩ := ws.2 0 _ (List.getElem?_eq_getElem w0)
    rw [e3, List.getElem?_map, List.getElem?_eq_getElem r0] at f1
    cases f1
theorem rr_ne {H : Hp} {t rr : Addr} {ys xs : List V} {R : List (List Int)} {W : List (List Int × List Int)} (hr : H rr = some (.lst xs)) (ls : Ls H xs R) (h0 : R ≠ []) (ht : H t = some (.lst ys)) (ws : Ws H ys W) : rr ≠ t := fun z => by
  rw [z, ht] at hr
  have e : ys = xs := HO.lst.inj (Option.some.inj hr)
  have r0 : 0 < R.length := List.length_pos_iff.mpr h0
  obtain ⟨p, e1, e2⟩ := ls.2 0 _ (List.getElem?_eq_getElem r0)
  have w0 : 0 < W.length := by rw [← ws.1, e, ls.1]; exact r0
  obtain ⟨q, qa, qb, f1, f2, _⟩ := ws.2 0 _ (List.getElem?_eq_getElem w0)
  rw [e, e1] at f1
  cases f1
  rw [e2] at f2
  cases f2
noncomputable def lenR (σ : L2.St) (H : Hp) : Nat := match σ with
  | [_, _, some (V.ref p), _, _, _] => (match H p with | some (.lst xs) => xs.length | _ => 0)
  | _ => 0
theorem lenR_at {H : Hp} {o1 o2 o3 o4 o5 : Option V} {p : Addr} {zs : List V} (h : H p = some (.lst zs)) : lenR [o1, o2, some (.ref p), o3, o4, o5] H = zs.length := by
  show (match H p with | some (.lst xs) => xs.length | _ => 0) = _
  rw [h]
noncomputable def spWaves : Sp := fun vs H Q _ => ∃ (a : Addr) (row : List Int), vs = [.ref a] ∧ H a = some (.tup (row.map V.int)) ∧ row.Pairwise (· < ·) ∧ row.length ≤ 12 ∧ (∀ p ∈ row, -4000000000 ≤ p ∧ p ≤ 4000000000) ∧
  ∀ (r : Addr) (ys : List V) (H' : Hp), Same H H' → H r = none → H' r = some (.lst ys) → Ws H' ys (BB.wvs 12 (BB.pr (row.length + 1) (BB.blk row))) → Q (.ref r) H'
structure Wi (H0 H : Hp) (t rr : Addr) (W0 : List (List Int × List Int)) (R : List (List Int)) (N n : Nat) (W : List (List Int × List Int)) : Prop where
  sm : Same H0 H
  t0 : H0 t = none
  ty : ∃ ys, H t = some (.lst ys) ∧ Ws H ys W
  ry : ∃ xs, H rr = some (.lst xs) ∧ Ls H xs R
  gd : BB.Gd N R
  nn : N ≤ n
  wl : W.length + n ≤ 12
  ww : W ++ BB.wvs n R = W0
  rl : R.length ≤ 24
  fl : R.flatten.length ≤ 1000
section
variable {P : Program} {w : World} {K : PySem.W.Frag} {mg : Str → Option Value} {base : Heap}
set_option maxRecDepth 100000 in
theorem ok_waves {f : Addr} {fd : FuncData} (F : Fun K "waves" "waves" s_waves f fd) (nb : NbE mg) (h_runs_in : Has P w K mg base 2 "runs_in" ["row"] spRuns) (h_first_short : Has P w K mg base 1 "first_short" ["runs"] spFs) (h_without_wave : Has P w K mg base 1 "without_wave" ["runs", "at"] spWo)  :
    FnOk P w K mg base CX0 3 f fd ["row"] spWaves := by
  have nd := sc_waves.nd
  refine F.ok (k := 2) sc_waves (fun vs H Q E h => ?_) (fun cdv A outer s H vs Q E hr h => ?_)
  · obtain ⟨a, row, rfl, _⟩ := h
    rfl
  obtain ⟨a, row, rfl, ha, up, r12, bd, q⟩ := h
  refine ⟨_, (pss_cons (ps_set (i := 1) nd rfl (Or.inl rfl) (pe_lst pa_nil))
(pss_cons (ps_set (i := 2) nd rfl (Or.inl rfl) (pe_def h_runs_in hr (pa_cons (pv 0) pa_nil)))
(pss_cons (ps_while PassesOwn.never (pt_truth (pv 2) (fun _ => rfl))
(pss_cons (ps_set (i := 3) nd rfl (Or.inl rfl) (pe_def h_first_short hr (pa_cons (pv 2) pa_nil)))
(pss_cons (ps_set (i := 4) nd rfl (Or.inl rfl) (pe_callTy call_tuple_of rfl nb.tuple boot_tuple (pa_cons (pe_ix ix_list (pv 2) (pv 3) (fun _ _ => rfl)) pa_nil)))
(pss_cons (ps_set (i := 5) nd rfl (Or.inl rfl) (pe_callTy call_tuple_of rfl nb.tuple boot_tuple (pa_cons (pe_slice sl_list (pe_ix ix_list (pv 2) (pe_op op_add (pv 3) pe_int) (fun _ _ => rfl)) po_none (po_some (pe_callB call_len_seq rfl nb.len PySem.boot_len (pa_cons (pv 4) pa_nil)))) pa_nil)))
(pss_cons (ps_expr (pe_bm PySem.F.plainAttrs_list PySem.F.slot_list_append PySem.F.type_list_append mt_append (pv 1) (pa_cons (pe_ifExp (pt_cmpR op_eq (pe_op op_mod (pv 3) pe_int) pe_int (nomark _)) (pe_tup (pa_cons (pv 4) (pa_cons (pv 5) pa_nil))) (pe_tup (pa_cons (pv 5) (pa_cons (pv 4) pa_nil)))) pa_nil)))
(pss_one (ps_set (i := 2) nd rfl (Or.inl rfl) (pe_def h_without_wave hr (pa_cons (pv 2) (pa_cons (pv 3) pa_nil))))))))))
(pss_one (ps_ret (pv 1)))))), ?_⟩
  refine ⟨(by show 0 ≤ sizeLine; decide), fun t ht => ?_⟩
  have s1 := same_new ht (.lst [])
  have ht1 : (upd H t (.lst [])) t = some (.lst []) := upd_same
  generalize upd H t (.lst []) = H1 at s1 ht1 ⊢
  refine ⟨_, rfl, a, row, rfl, s1 _ _ ha, up, r12, bd, fun rr xs H2 s2 hr ls => ?_⟩
  have flt := BB.lr_flat (c := row.length + 1) row
  have gd := BB.lr_good (c := row.length + 1) (Nat.le_refl _) up
  rw [← BB.pr_blk] at flt gd
  have big : row.length * (row.length + 1 + 1) ≤ 12 * 14 := Nat.mul_le_mul r12 (by omega)
  have wi0 : Wi H H2 t rr (BB.wvs 12 (BB.pr (row.length + 1) (BB.blk row))) (BB.pr (row.length + 1) (BB.blk row)) row.length 12 [] := ⟨s1.trans s2, ht, ⟨[], s2 _ _ ht1, rfl, fun j z e => by cases e⟩, ⟨xs, hr, ls⟩, gd, r12, Nat.le_refl _, rfl, by omega, by omega⟩
  dsimp only
  refine seq_while ?_
  refine while_by (fun σ H' => ∃ rr R N n W o3 o4 o5, σ = [some (.ref a), some (.ref t), some (.ref rr), o3, o4, o5] ∧ Wi H H' t rr (BB.wvs 12 (BB.pr (row.length + 1) (BB.blk row))) R N n W) lenR ⟨rr, _, _, _, _, _, _, _, rfl, wi0⟩ (fun σ H' hp => ?_) (fun σ H Q Q' hq h => ?_)
  · obtain ⟨rr, R, N, n, W, o3, o4, o5, rfl, wi⟩ := hp
    obtain ⟨xs, hr, ls⟩ := wi.ry
    obtain ⟨ys, hty, ws⟩ := wi.ty
    have lm := lenR_at (o1 := some (V.ref a)) (o2 := some (V.ref t)) (o3 := o3) (o4 := o4) (o5 := o5) hr
    by_cases e0 : R = []
    · subst e0
      have ex : xs = [] := List.length_eq_zero_iff.mp ls.1
      subst ex
      refine ⟨_, rfl, false, .inl ⟨_, SqL.of hr, rfl⟩, iteF ?_⟩
      have ww := wi.ww
      rw [BB.wvs_nil, List.append_nil] at ww
      rw [ww] at ws
      exact ⟨_, rfl, q t ys H' wi.sm wi.t0 hty ws⟩
    have xn : xs ≠ [] := fun z => e0 (List.length_eq_zero_iff.mp (by rw [← ls.1, z]; rfl))
    refine ⟨_, rfl, true, .inl ⟨_, SqL.of hr, by cases xs with | nil => exact absurd rfl xn | cons _ _ => rfl⟩, iteT ?_⟩
    obtain ⟨pre, s, g, post, eR, ef, lsg⟩ := wi.gd.at e0
    subst eR
    have gd := wi.gd
    obtain ⟨sz, _⟩ := gd.size lsg
    have sp : 1 ≤ s.length := List.length_pos_iff.mpr (gd.ne s (by simp))
    have nn := wi.nn
    have wl := wi.wl
    have rl := wi.rl
    have big := BB.mem_flat wi.fl
    have bs := big s (by simp)
    have bg := big g (by simp)
    have lR : (pre ++ s :: g :: post).length = pre.length + 2 + post.length := by simp only [List.length_append, List.length_cons]; omega
    -- where
    refine ⟨_, rfl, rr, xs, _, rfl, hr, ls, by rw [ef]; omega, by rw [ef, BB.getD_pre, BB.getD_pre1]; exact lsg, fun H2 s2 => ?_⟩
    rw [ef]
    obtain ⟨ps, es, fs_⟩ := ls.get (j := pre.length) (by omega)
    obtain ⟨pg, eg, fg⟩ := ls.get (j := pre.length + 1) (by omega)
    rw [BB.getD_pre] at fs_
    rw [BB.getD_pre1] at fg
    -- the short one
    refine ⟨_, rfl, _, rfl, rr, _, _, _, rfl, rfl, SqL.of (s2 _ _ hr), atI_nat es, ps, _, rfl, .inl ⟨SqL.of (s2 _ _ fs_), fun t1 ht1' => ?_⟩⟩
    have k1 := s2.trans (same_new ht1' (.tup (s.map V.int)))
    have f1 : (upd H2 t1 (.tup (s.map V.int))) t1 = some (.tup (s.map V.int)) := upd_same
    generalize upd H2 t1 (.tup (s.map V.int)) = H3 at k1 f1 ⊢
    -- as many behind it
    refine ⟨_, rfl, _, rfl, _, _, rfl, rfl, rr, _, _, _, rfl, rfl, SqL.of (k1 _ _ hr), (show atI xs ((pre.length : Int) + 1) = some (.ref pg) by rw [show ((pre.length : Int) + 1) = ((pre.length + 1 : Nat) : Int) by omega]; exact atI_nat eg), ?_⟩
    refine ⟨_, rfl, t1, _, rfl, .inr (SqT.of f1), _, rfl, pg, _, rfl, SqL.of (k1 _ _ fg), fun t2 ht2 => ?_⟩
    rw [cut_to, List.length_map, ← List.map_take]
    refine ⟨t2, _, rfl, .inl ⟨SqL.of upd_same, fun t3 ht3 => ?_⟩⟩
    have k3 := (same_new ht2 (.lst ((g.take s.length).map V.int))).trans (same_new ht3 (.tup ((g.take s.length).map V.int)))
    have f3 : (upd (upd H3 t2 (.lst ((g.take s.length).map V.int))) t3 (.tup ((g.take s.length).map V.int))) t3 = some (.tup ((g.take s.length).map V.int)) := upd_same
    generalize upd (upd H3 t2 (.lst ((g.take s.length).map V.int))) t3 (.tup ((g.take s.length).map V.int)) = H4 at k3 f3 ⊢
    have K4 := k1.trans k3
    have f14 := k3 _ _ f1
    have ht4 := K4 _ _ hty
    have ws4 := ws.same K4
    have ls4 := ls.same K4
    have rne := rr_ne (K4 _ _ hr) ls4 e0 ht4 ws4
    obtain ⟨n', en⟩ : ∃ n', n = n' + 1 := ⟨n - 1, by omega⟩
    subst en
    -- what comes behind
    have fin : ∀ (pa pb p : Addr), H4 p = none → H4 pa = some (.tup ((BB.wv (pre ++ s :: g :: post) pre.length).1.map V.int)) → H4 pb = some (.tup ((BB.wv (pre ++ s :: g :: post) pre.length).2.map V.int)) →
        (upd H4 p (.tup [.ref pa, .ref pb])) t = some (.lst ys) ∧ (upd (upd H4 p (.tup [.ref pa, .ref pb])) t (.lst (ys ++ [.ref p]))) rr = some (.lst xs) ∧ Ls (upd (upd H4 p (.tup [.ref pa, .ref pb])) t (.lst (ys ++ [.ref p]))) xs (pre ++ s :: g :: post) ∧
        (∀ r2 ys2 H5, Same (upd (upd H4 p (.tup [.ref pa, .ref pb])) t (.lst (ys ++ [.ref p]))) H5 → H5 r2 = some (.lst ys2) → Ls H5 ys2 (BB.wo (pre ++ s :: g :: post) pre.length) → Wi H H5 t r2 (BB.wvs 12 (BB.pr (row.length + 1) (BB.blk row))) (BB.wo (pre ++ s :: g :: post) pre.length) (N - s.length) n' (W ++ [BB.wv (pre ++ s :: g :: post) pre.length])) := by
      intro pa pb p hp hpa hpb
      have kp := same_new hp (.tup [.ref pa, .ref pb])
      have fp : (upd H4 p (.tup [.ref pa, .ref pb])) p = some (.tup [.ref pa, .ref pb]) := upd_same
      have hpa' := kp _ _ hpa
      have hpb' := kp _ _ hpb
      have hr' := kp _ _ (K4 _ _ hr)
      have ht' := kp _ _ ht4
      have ws' := ws4.same kp
      have ls' := ls4.same kp
      have KP : Same H (upd H4 p (.tup [.ref pa, .ref pb])) := wi.sm.trans (K4.trans kp)
      generalize upd H4 p (.tup [.ref pa, .ref pb]) = G at kp fp hpa' hpb' hr' ht' ws' ls' KP ⊢
      have tupk : ∀ q zs, G q = some (.tup zs) → (upd G t (.lst (ys ++ [.ref p]))) q = some (.tup zs) := fun q zs e => by
        rw [upd_ne (fun z => by rw [z, ht'] at e; cases e)]
        exact e
      refine ⟨ht', by rw [upd_ne rne]; exact hr', ls'.told gd.ne ht' ws', fun r2 ys2 H5 s5 h5 l5 => ?_⟩
      have wn : Ws (upd G t (.lst (ys ++ [.ref p]))) (ys ++ [.ref p]) (W ++ [BB.wv (pre ++ s :: g :: post) pre.length]) := Ws.snoc (ws'.keep tupk) (tupk _ _ fp) (tupk _ _ hpa') (tupk _ _ hpb')
      obtain ⟨w1, w2⟩ := BB.wo_len (pre := pre) (post := post) (s := s) (g := g)
      refine ⟨fun c o e => s5 _ _ (by rw [upd_ne (ne_of_none e wi.t0)]; exact KP _ _ e), wi.t0, ⟨_, s5 _ _ upd_same, wn.same s5⟩, ⟨ys2, h5, l5⟩, gd.wo lsg, by omega, by rw [List.length_append, List.length_singleton]; omega, ?_, by omega, by have := wi.fl; omega⟩
      have ww := wi.ww
      have e1 : BB.wvs (n' + 1) (pre ++ s :: g :: post) = BB.wv (pre ++ s :: g :: post) pre.length :: BB.wvs n' (BB.wo (pre ++ s :: g :: post) pre.length) := by
        show (if pre ++ s :: g :: post = [] then _ else _) = _
        rw [if_neg e0, ef]
      rw [e1] at ww
      rw [List.append_assoc]
      exact ww
    have yl : ys.length ≤ 12 := by rw [ws.1]; omega
    refine ⟨_, rfl, .inl ⟨rfl, _, SqL.of ht4⟩, _, rfl, _, _, rfl, rfl, (show (0 : Int) < 2 by decide), rfl, _, rfl, ?_⟩
    by_cases c : pre.length % 2 = 0
    · rw [decide_eq_true (show V.int ((pre.length : Int) % 2) = V.int 0 by congr 1; omega)]
      refine iteT ?_
      have e1 : BB.wv (pre ++ s :: g :: post) pre.length = (s, g.take s.length) := by unfold BB.wv; rw [if_pos c, BB.getD_pre, BB.getD_pre1]
      refine ⟨_, rfl, _, rfl, (by show 2 ≤ sizeLine; decide), fun p hp => ?_⟩
      obtain ⟨q1, q2, q3, q4⟩ := fin t1 t3 p hp (by rw [e1]; exact f14) (by rw [e1]; exact f3)
      refine ⟨t, _, _, rfl, rfl, q1, by rw [sizeLine_eq]; omega, ?_⟩
      refine ⟨_, rfl, _, rfl, rr, xs, pre, post, s, g, rfl, q2, q3, by omega, big, fun r2 ys2 H5 s5 h5 l5 => ?_⟩
      refine ⟨⟨r2, _, _, _, _, _, _, _, rfl, q4 r2 ys2 H5 s5 h5 l5⟩, ?_⟩
      show lenR [_, _, some (V.ref r2), _, _, _] _ < _
      rw [lenR_at h5, lm, l5.1, ls.1]
      have := (BB.wo_len (pre := pre) (post := post) (s := s) (g := g)).1
      omega
    · rw [decide_eq_false (show ¬ V.int ((pre.length : Int) % 2) = V.int 0 from fun z => by have := V.int.inj z; omega)]
      refine iteF ?_
      have e1 : BB.wv (pre ++ s :: g :: post) pre.length = (g.take s.length, s) := by unfold BB.wv; rw [if_neg c, BB.getD_pre, BB.getD_pre1]
      refine ⟨_, rfl, _, rfl, (by show 2 ≤ sizeLine; decide), fun p hp => ?_⟩
      obtain ⟨q1, q2, q3, q4⟩ := fin t3 t1 p hp (by rw [e1]; exact f3) (by rw [e1]; exact f14)
      refine ⟨t, _, _, rfl, rfl, q1, by rw [sizeLine_eq]; omega, ?_⟩
      refine ⟨_, rfl, _, rfl, rr, xs, pre, post, s, g, rfl, q2, q3, by omega, big, fun r2 ys2 H5 s5 h5 l5 => ?_⟩
      refine ⟨⟨r2, _, _, _, _, _, _, _, rfl, q4 r2 ys2 H5 s5 h5 l5⟩, ?_⟩
      show lenR [_, _, some (V.ref r2), _, _, _] _ < _
      rw [lenR_at h5, lm, l5.1, ls.1]
      have := (BB.wo_len (pre := pre) (post := post) (s := s) (g := g)).1
      omega
  · obtain ⟨v, e, k, tv, q1⟩ := h
    exact ⟨v, e, k, tv, hq _ _ q1⟩
end
end K34
end
section
namespace K34
open PySem PySem.Spec PyProof.Rows L2
set_option maxHeartbeats 4000000
set_option maxRecDepth 100000
set_option Elab.async false
set_option linter.unusedVariables false
open BB (lens outs)
structure NbX (mg : Str → Option Value) : Prop extends NbE mg where
  set : mg "set" = none
  sum : mg "sum" = none
theorem ne_no {α : Type} [DecidableEq α] {x y : α} (e : x = y) : V.bl (!decide (x = y)) = .bl false := by rw [decide_eq_true e]; rfl
theorem eq_yes {α : Type} [DecidableEq α] {x y : α} (e : x = y) : V.bl (decide (x = y)) = .bl true := by rw [decide_eq_true e]
noncomputable def fl1 (W : List (List Int × List Int)) : List Int := (W.map (·.1)).flatten
noncomputable def fl2 (W : List (List Int × List Int)) : List Int := (W.map (·.2)).flatten
theorem fl1_snoc (W : List (List Int × List Int)) (z : List Int × List Int) : fl1 (W ++ [z]) = fl1 W ++ z.1 := by unfold fl1; rw [List.map_append, List.flatten_append]; simp
theorem fl2_snoc (W : List (List Int × List Int)) (z : List Int × List Int) : fl2 (W ++ [z]) = fl2 W ++ z.2 := by unfold fl2; rw [List.map_append, List.flatten_append]; simp
theorem fl1_take (W : List (List Int × List Int)) (i : Nat) : (fl1 (W.take i)).length ≤ (fl1 W).length := by
  have e : fl1 W = fl1 (W.take i) ++ fl1 (W.drop i) := by unfold fl1; rw [← List.flatten_append, ← List.map_append, List.take_append_drop]
  rw [e, List.length_append]; omega
theorem fl2_take (W : List (List Int × List Int)) (i : Nat) : (fl2 (W.take i)).length ≤ (fl2 W).length := by
  have e : fl2 W = fl2 (W.take i) ++ fl2 (W.drop i) := by unfold fl2; rw [← List.flatten_append, ← List.map_append, List.take_append_drop]
  rw [e, List.length_append]; omega
theorem take_one {α : Type} {W : List α} {i : Nat} {z : α} (h : W[i]? = some z) : W.take (i + 1) = W.take i ++ [z] := by
  rw [List.take_succ, h]; rfl
theorem Ws.at {H : Hp} {ys : List V} {W : List (List Int × List Int)} (t : Ws H ys W) {i : Nat} {x : V} (hx : ys[i]? = some x) : ∃ z p pa pb, W[i]? = some z ∧ x = .ref p ∧ H p = some (.tup [.ref pa, .ref pb]) ∧ H pa = some (.tup (z.1.map V.int)) ∧ H pb = some (.tup (z.2.map V.int)) := by
  have il : i < W.length := by rw [← t.1]; exact (List.getElem?_eq_some_iff.mp hx).1
  obtain ⟨p, pa, pb, e1, h1, h2, h3⟩ := t.2 i _ (List.getElem?_eq_getElem il)
  rw [hx] at e1
  cases e1
  exact ⟨_, p, pa, pb, List.getElem?_eq_getElem il, rfl, h1, h2, h3⟩
noncomputable def spWr : Sp := fun vs H Q _ => ∃ (a b : Addr) (row : List Int), vs = [.ref a, .ref b] ∧ H a = some (.tup (row.map V.int)) ∧ H b = some (.tup ((lens (outs row.length row)).map V.int)) ∧ row.Pairwise (· < ·) ∧ row.length ≤ 12 ∧ (∀ p ∈ row, -4000000000 ≤ p ∧ p ≤ 4000000000) ∧
  ∀ (H' : Hp), Same H H' → Q (.bl true) H'
section
variable {P : Program} {w : World} {K : PySem.W.Frag} {mg : Str → Option Value} {base : Heap}
set_option maxRecDepth 100000 in
theorem ok_L_waves_right {f : Addr} {fd : FuncData} (F : Fun K "_law_waves_right" "_law_waves_right" s_L_waves_right f fd) (nb : NbX mg) (h_waves : Has P w K mg base 3 "waves" ["row"] spWaves)  :
    FnOk P w K mg base CX0 4 f fd ["_law_row_here", "_law_due"] spWr := by
  have nd := sc_L_waves_right.nd
  refine F.ok (k := 3) sc_L_waves_right (fun vs H Q E h => ?_) (fun cdv A outer s H vs Q E hr h => ?_)
  · obtain ⟨a, b, row, rfl, _⟩ := h
    rfl
  obtain ⟨a, b, row, rfl, ha, hb, up, r12, bd, q⟩ := h
  refine ⟨_, (pss_cons (ps_set (i := 2) nd rfl (Or.inl rfl) (pe_def h_waves hr (pa_cons (pv 0) pa_nil)))
(pss_cons (ps_par (i := 3) (j := 4) rfl nd rfl rfl (by decide) rfl rfl (pa_cons (pe_lst pa_nil) (pa_cons (pe_lst pa_nil) pa_nil)) rfl)
(pss_cons (ps_for PassesOwn.never rfl (pi_list (pv 2)) (pg_tup rfl (pgs_cons (pg_name (i := 5) nd rfl (Or.inl rfl)) (pgs_cons (pg_name (i := 6) nd rfl (Or.inl rfl)) pgs_nil)))
(pss_cons (ps_if (pt_cmpR op_ne (pe_callB call_len_seq rfl nb.len PySem.boot_len (pa_cons (pv 5) pa_nil)) (pe_callB call_len_seq rfl nb.len PySem.boot_len (pa_cons (pv 6) pa_nil)) (nomark _))
(pss_one (ps_ret pe_bl))
pss_nil)
(pss_cons (ps_expr (pe_bm PySem.F.plainAttrs_list PySem.F.slot_list_extend PySem.F.type_list_extend mt_extendT (pv 3) (pa_cons (pv 5) pa_nil)))
(pss_one (ps_expr (pe_bm PySem.F.plainAttrs_list PySem.F.slot_list_extend PySem.F.type_list_extend mt_extendT (pv 4) (pa_cons (pv 6) pa_nil)))))))
(pss_cons (ps_if (PW.pt (pw_or (pt_cmpR (op_neL hr.units0) (pe_revL (pe_callB call_sortL rfl nb.sorted boot_sorted (pa_cons (pe_comp2 (sc := defScope s_L_waves_right) (N0 := ["_law_row_here", "_law_due", "_law_some", "_law_balls", "_law_boxes", "_law_one", "_law_other"]) (N := []) (js := []) rfl rfl rfl (by exact ⟨rfl, by decide +kernel, by decide +kernel, by decide +kernel, rfl, rfl, by decide, by decide +kernel, by decide +kernel⟩) rfl rfl
(pi_list (pv 2))
(fun _ _ _ _ _ => by exact pts_nil)
(fun _ _ _ _ _ => by exact (pe_callB (call_lenK K rfl) rfl nb.len PySem.boot_len (pa_cons (pv 0) pa_nil)))) pa_nil))) (pe_callTy call_list_of rfl nb.list boot_list (pa_cons (pv 1) pa_nil)) (nomark _)) (pw_or1 (pt_cmpR (op_neT hr.units0) (pe_callTy call_tuple_of rfl nb.tuple boot_tuple (pa_cons (pe_callB call_sortL rfl nb.sorted boot_sorted (pa_cons (pv 3) pa_nil)) pa_nil)) (pv 0) (nomark _)))))
(pss_one (ps_ret pe_bl))
pss_nil)
(pss_one (ps_ret (pe_and (pe_cmpR op_eq (pe_lenset rfl nb.len rfl nb.set rfl (pa_cons (pv 4) pa_nil)) (pe_callB call_len_seq rfl nb.len PySem.boot_len (pa_cons (pv 4) pa_nil)) (nomark _)) (pe_one (pe_cmpR (op_eqNil hr.units0) (pe_comp1 (sc := defScope s_L_waves_right) (N0 := ["_law_row_here", "_law_due", "_law_some", "_law_balls", "_law_boxes", "_law_one", "_law_other"]) (N := ["_law_row_here"]) (js := [0]) rfl rfl rfl (by exact ⟨rfl, by decide +kernel, by decide +kernel, by decide +kernel, rfl, rfl, by decide, by decide +kernel, by decide +kernel⟩) rfl
(pi_list (pv 4))
(fun _ _ _ _ _ => by exact (pts_one (pt_cmpR (op_inK K rfl) (pv 0) (pv 1) rfl)))
(fun _ _ _ _ _ => by exact (pv 0))) (pe_lst pa_nil) (nomark _)))))))))), ?_⟩
  refine ⟨_, rfl, a, row, rfl, ha, up, r12, bd, fun r ys H1 s1 n1 h1 ws => ?_⟩
  rw [BB.waves_due up r12 12] at ws
  obtain ⟨w1, w2, w3, w4⟩ := BB.waves_of up r12
  have wl := BB.waves_long up r12
  have wp := (BB.wvs_taken 0 12 _ _ (BB.lr_good (c := 25) (by omega) up) r12).2
  generalize BB.wvs 12 (BB.lr 25 row) = W at ws w1 w2 w3 w4 wl wp
  have e1 : (W.map (·.1)).flatten = fl1 W := rfl
  have e2 : (W.map (·.2)).flatten = fl2 W := rfl
  rw [e1] at w1
  rw [e2] at w2 w3 w4
  have lW : W.length ≤ 12 := wp.2
  have l1 := w1.length_eq
  refine ⟨(by show 0 ≤ sizeLine; decide), fun pb hpb => ⟨(by show 0 ≤ sizeLine; decide), fun px hpx => ⟨_, _, rfl, ?_⟩⟩⟩
  have k1 := same_new hpb (.lst [])
  have k2 := same_new hpx (.lst [])
  have pbx : pb ≠ px := fun z => by rw [← z, upd_same] at hpx; cases hpx
  have npx : H1 px = none := by
    cases c : H1 px with
    | none => rfl
    | some o => exact absurd (k1 _ _ c) (by rw [hpx]; intro z; cases z)
  have f1 : (upd (upd H1 pb (.lst [])) px (.lst [])) pb = some (.lst ((fl1 (W.take 0)).map V.int)) := k2 _ _ upd_same
  have f2 : (upd (upd H1 pb (.lst [])) px (.lst [])) px = some (.lst ((fl2 (W.take 0)).map V.int)) := upd_same
  have S0 := k1.trans k2
  generalize upd (upd H1 pb (.lst [])) px (.lst []) = H2 at f1 f2 S0 ⊢
  refine ⟨_, rfl, r, rfl, ⟨_, SqL.of (S0 _ _ h1)⟩, ?_⟩
  refine for_list (xs := ys) (fun i σ H' => Same H1 H' ∧ (∃ o5 o6, σ = [some (.ref a), some (.ref b), some (.ref r), some (.ref pb), some (.ref px), o5, o6]) ∧ H' pb = some (.lst ((fl1 (W.take i)).map V.int)) ∧ H' px = some (.lst ((fl2 (W.take i)).map V.int)))
    ⟨S0, ⟨_, _, rfl⟩, f1, f2⟩ (fun i σ H' _ hp => SqL.of (hp.1 _ _ h1)) (fun i x σ H3 hx hp => ?_) (fun σ H3 hp => ?_)
  · obtain ⟨S3, ⟨o5, o6, rfl⟩, g1, g2⟩ := hp
    obtain ⟨z, p, pa, pq, ez, rfl, hp, hpa, hpq⟩ := ws.at hx
    have zl := wp.1 z (List.mem_of_getElem? ez)
    have t1 := fl1_take W (i + 1)
    have t2 := fl2_take W (i + 1)
    rw [take_one ez, fl1_snoc, List.length_append] at t1
    rw [take_one ez, fl2_snoc, List.length_append] at t2
    refine ⟨p, _, rfl, SqT.of (S3 _ _ hp), rfl, _, _, rfl, _, _, rfl, rfl, ?_⟩
    refine ⟨_, rfl, pa, _, rfl, .inr (SqT.of (S3 _ _ hpa)), _, rfl, pq, _, rfl, .inr (SqT.of (S3 _ _ hpq)), rfl, false, ne_no (congrArg V.int (by rw [List.length_map, List.length_map, zl.1])), iteF ?_⟩
    refine ⟨_, rfl, .inl ⟨rfl, _, SqL.of g1⟩, _, rfl, pb, pa, _, _, rfl, rfl, g1, SqT.of (S3 _ _ hpa), by rw [List.length_map, List.length_map, sizeLine_eq]; omega, ?_⟩
    have npb : H1 pb = none := hpb
    have g2' : (upd H3 pb (.lst ((fl1 (W.take i)).map V.int ++ z.1.map V.int))) px = some (.lst ((fl2 (W.take i)).map V.int)) := by rw [upd_ne pbx.symm]; exact g2
    have S4 := S3.upd_free npb (.lst ((fl1 (W.take i)).map V.int ++ z.1.map V.int))
    have g1' : (upd H3 pb (.lst ((fl1 (W.take i)).map V.int ++ z.1.map V.int))) pb = some (.lst ((fl1 (W.take i)).map V.int ++ z.1.map V.int)) := upd_same
    generalize upd H3 pb (.lst ((fl1 (W.take i)).map V.int ++ z.1.map V.int)) = H4 at g2' S4 g1' ⊢
    refine ⟨_, rfl, .inl ⟨rfl, _, SqL.of g2'⟩, _, rfl, px, pq, _, _, rfl, rfl, g2', SqT.of (S4 _ _ hpq), by rw [List.length_map, List.length_map, sizeLine_eq]; omega, ?_⟩
    refine ⟨S4.upd_free npx _, ⟨_, _, rfl⟩, ?_, ?_⟩
    · rw [upd_ne pbx, g1', take_one ez, fl1_snoc, List.map_append]
    · rw [upd_same, take_one ez, fl2_snoc, List.map_append]
  obtain ⟨S3, ⟨o5, o6, rfl⟩, g1, g2⟩ := hp
  rw [ws.1, List.take_length] at g1 g2
  have h3 := S3 _ _ h1
  -- as long as the lengths
  refine ⟨_, rfl, r, rfl, ⟨_, SqL.of h3⟩, fun D hD => ?_⟩
  refine comp_go ys.length (by rw [ws.1, sizeLine_eq]; omega) (fun i => .int ((W.getD i ([], [])).1.length : Int)) (fun σ => ∃ o1 o2, σ = [o1, o2]) (fun i _ x => ys[i]? = some x) hD (by exact ⟨_, _, rfl⟩) (items_lst h3) (fun i x σ' H4 hi s4 im hσ R hR => ?_) (fun H4 s4 hD4 => ?_)
  · obtain ⟨o1, o2, rfl⟩ := hσ
    obtain ⟨z, p, pa, pq, ez, rfl, hp, hpa, hpq⟩ := ws.at im
    have S4 := S3.trans s4
    refine ⟨p, _, rfl, SqT.of (S4 _ _ hp), rfl, _, _, rfl, _, _, rfl, rfl, _, rfl, pa, _, rfl, .inr (SqT.of (S4 _ _ hpa)), hR _ _ _ ⟨_, _, rfl⟩ (Same.refl _) ?_⟩
    rw [List.length_map, List.getD_eq_getElem?_getD, ez]
    rfl
  rw [ws.1, BB.all_list ([], []) W (fun z => V.int (z.1.length : Int)), show (W.map fun z => V.int (z.1.length : Int)) = (W.map fun z => (z.1.length : Int)).map V.int by rw [List.map_map]; rfl] at hD4
  refine ⟨D, _, rfl, .inl hD4, by rw [List.length_map]; omega, fun ns l pm so hl => ?_⟩
  have k5 := same_new hl (.lst (ns.map V.int))
  have ed := BB.down_one (BB.lens_fall _) (pm.trans wl) so
  refine ⟨l, _, rfl, SqL.of upd_same, fun p5 hp5 => ?_⟩
  rw [← List.map_reverse, ed] at *
  have k6 := same_new hp5 (.lst ((lens (outs row.length row)).map V.int))
  have S6 := S3.trans (s4.trans (k5.trans k6))
  have f6 : (upd (upd H4 l (.lst (ns.map V.int))) p5 (.lst ((lens (outs row.length row)).map V.int))) p5 = some (.lst ((lens (outs row.length row)).map V.int)) := upd_same
  have g16 := k6 _ _ (k5 _ _ (s4 _ _ g1))
  have g26 := k6 _ _ (k5 _ _ (s4 _ _ g2))
  generalize upd (upd H4 l (.lst (ns.map V.int))) p5 (.lst ((lens (outs row.length row)).map V.int)) = H6 at S6 f6 g16 g26 ⊢
  have hb6 := S6 _ _ (s1 _ _ hb)
  refine ⟨_, rfl, b, _, rfl, .inr (SqT.of hb6), fun p7 hp7 => ?_⟩
  have k7 := same_new hp7 (.lst ((lens (outs row.length row)).map V.int))
  refine ⟨p5, p7, _, _, rfl, rfl, SqL.of (k7 _ _ f6), SqL.of upd_same, rfl, false, ne_no rfl, iteF ?_⟩
  have S7 := S6.trans k7
  have g17 := k7 _ _ g16
  have g27 := k7 _ _ g26
  generalize upd H6 p7 (.lst ((lens (outs row.length row)).map V.int)) = H7 at S7 g17 g27 ⊢
  -- the balls
  refine ⟨_, rfl, pb, _, rfl, .inl g17, by omega, fun ms l8 pm8 so8 hl8 => ?_⟩
  have em : ms = row := by
    have pr := pm8.trans w1
    refine pr.eq_of_pairwise (fun x y _ _ h1 h2 => by omega) so8 (up.imp fun h => by omega)
  subst em
  have k8 := same_new hl8 (.lst (ms.map V.int))
  refine ⟨l8, _, rfl, .inl ⟨SqL.of upd_same, fun t9 ht9 => ?_⟩⟩
  have k9 := same_new ht9 (.tup (ms.map V.int))
  have S9 := S7.trans (k8.trans k9)
  have g29 := k9 _ _ (k8 _ _ g27)
  have f9 : (upd (upd H7 l8 (.lst (ms.map V.int))) t9 (.tup (ms.map V.int))) t9 = some (.tup (ms.map V.int)) := upd_same
  generalize upd (upd H7 l8 (.lst (ms.map V.int))) t9 (.tup (ms.map V.int)) = H9 at S9 g29 f9 ⊢
  have ha9 := S9 _ _ (s1 _ _ ha)
  refine ⟨_, rfl, t9, a, _, _, rfl, rfl, SqT.of f9, SqT.of ha9, false, ne_no rfl, iteF ?_⟩
  -- the boxes
  refine ⟨_, rfl, px, fl2 W, rfl, SqL.of g29, by omega, w2, _, rfl, px, _, rfl, .inl (SqL.of g29), rfl, true, eq_yes (congrArg V.int (by rw [List.length_map])), iteT ?_⟩
  refine ⟨_, rfl, px, rfl, ⟨_, SqL.of g29⟩, fun D2 hD2 => ?_⟩
  refine comp_sel ((fl2 W).map V.int).length (by rw [List.length_map, sizeLine_eq]; omega) (fun i => decide ((fl2 W).getD i 0 ∈ ms)) (fun i => .int ((fl2 W).getD i 0)) (fun σ => ∃ o1, σ = [o1, some (.ref a)]) _ hD2 (by exact ⟨_, rfl⟩) (items_lst g29) (fun i x σ' HA hi sA im hσ R S hR hS => ?_) (fun HA sA hDA => ?_)
  · obtain ⟨o1, rfl⟩ := hσ
    obtain rfl := num_at im
    refine ⟨_, rfl, _, rfl, a, _, rfl, .inr (SqT.of (sA _ _ ha9)), rfl, flat_nums ms, _, rfl, ?_⟩
    rw [in_nums, if_neg Bool.false_ne_true]
    by_cases m : (fl2 W).getD i 0 ∈ ms
    · rw [decide_eq_true m]
      exact iteT ⟨_, rfl, hR (decide_eq_true m) _ _ _ ⟨_, rfl⟩ (Same.refl _) rfl⟩
    · rw [decide_eq_false m]
      exact iteF (hS (decide_eq_false m) _ _ ⟨_, rfl⟩ (Same.refl _))
  rw [List.length_map, BB.sel_list 0 (fl2 W) (fun p => decide (p ∈ ms)) V.int, List.filter_eq_nil_iff.mpr fun x hx => by rw [decide_eq_true_iff]; exact w3 x hx] at hDA
  refine ⟨(by show 0 ≤ sizeLine; decide), fun lB hlB => ⟨D2, lB, _, rfl, rfl, SqL.of (same_new hlB _ _ _ hDA), SqL.of upd_same, ?_⟩⟩
  exact q _ (s1.trans (S9.trans (sA.trans (same_new hlB _))))
end
end K34
end
section
namespace K34
open PySem PySem.Spec PyProof.Rows L2
set_option maxHeartbeats 4000000
set_option maxRecDepth 100000
set_option Elab.async false
set_option linter.unusedVariables false
open BB (lens outs)
/-- the outer block's scope, within the law -/
noncomputable abbrev scSum : Scope := { kind := .function, names := [(Str.ofString ".0", .local), (Str.ofString "_law_one", .cell), (Str.ofString "sum", .globalImplicit), (Str.ofString "_law_due", .cell)], isGenerator := false, isCoroutine := false, more := [] }
theorem same_keep {H H' : Hp} {r : Addr} {o : HO} (hr : H r = none) (k : Keep r (upd H r o) H') : Same H H' := fun c u h => k c u (ne_of_none h hr) (same_new hr o c u h)
noncomputable def spLaw (K : PySem.W.Frag) : Sp := fun vs H Q _ => ∃ (a : Addr) (ns : List Int), vs = [.ref a] ∧ SqL K H a (ns.map V.int) ∧ ns.length ≤ 63 ∧ ∀ H', Q (.bl true) H'
theorem Keep.of {a : Addr} {H H' : Hp} (s : Same H H') : Keep a H H' := fun c o _ h => s c o h
theorem isnt_true : V.bl (!decide (V.bl true = V.bl true)) = .bl false := by rw [decide_eq_true rfl]; rfl
theorem lens_len {row : List Int} (h : row.length ≤ 12) : (lens (outs row.length row)).length ≤ 1000 := by
  unfold BB.lens
  rw [List.length_map, List.length_range]
  by_cases e : row = []
  · subst e; decide
  · rw [outs_step e]
    show ((row.length : Int) - ((BB.peel row).length : Int)).toNat ≤ 1000
    omega
theorem sum_lim : ∀ (ls : List Int) (z : Int), ((List.range ls.length).map fun i => V.int (if ls.getD i 0 < z then ls.getD i 0 else z)) = (ls.map fun l => if l < z then l else z).map V.int := fun ls z => by
  rw [List.map_map]
  exact BB.all_list 0 ls (fun l => V.int (if l < z then l else z))
theorem sel_ints (ns : List Int) (p : Int → Bool) (f : Int → Int) : ((List.range ns.length).filter fun i => p (ns.getD i 0)).map (fun i => V.int (f (ns.getD i 0))) = ((ns.filter p).map f).map V.int := by
  have := BB.sel_list 0 ns p (fun z => V.int (f z))
  rw [this, List.map_map]
  rfl
theorem lens_same {row : List Int} {k : Nat} {A B : Int} (y : Nat) (h : BB.Rw row k A B) : lens (outs (BB.step y row).length (BB.step y row)) = lens (outs row.length row) := by rw [BB.lens_step y h]
/-- so many steps later: as many balls, in bounds, with the same lengths -/
theorem lat_same {row : List Int} {k : Nat} {A B : Int} (s : Int) (h : BB.Rw row k A B) : ∃ A' B', BB.Rw (BB.lat k s row) k A' B' ∧ lens (outs (BB.lat k s row).length (BB.lat k s row)) = lens (outs row.length row) := by
  have up : ∀ (n : Nat) {A B : Int} {r : List Int}, BB.Rw r k A B → ∃ A' B', BB.Rw (BB.it (BB.step k) n r) k A' B' ∧ lens (outs (BB.it (BB.step k) n r).length (BB.it (BB.step k) n r)) = lens (outs r.length r) := by
    intro n
    induction n with
    | zero => intro A B r h; exact ⟨A, B, h, rfl⟩
    | succ n ih =>
      intro A B r h
      obtain ⟨A', B', h1, h2⟩ := ih h
      exact ⟨_, _, h1.step k, (lens_same k h1).trans h2⟩
  have dn : ∀ (n : Nat) {A B : Int} {r : List Int}, BB.Rw r k A B → ∃ A' B', BB.Rw (BB.it (BB.unstep k) n r) k A' B' ∧ lens (outs (BB.it (BB.unstep k) n r).length (BB.it (BB.unstep k) n r)) = lens (outs r.length r) := by
    intro n
    induction n with
    | zero => intro A B r h; exact ⟨A, B, h, rfl⟩
    | succ n ih =>
      intro A B r h
      obtain ⟨A', B', h1, h2⟩ := ih h
      refine ⟨_, _, h1.unstep k, ?_⟩
      have e := lens_same k (h1.unstep k)
      rw [BB.step_unstep k h1] at e
      exact e.symm.trans h2
  unfold BB.lat
  split
  · exact up _ h
  · exact dn _ h
theorem count_one {row : List Int} {bl : List (Int × Int)} (e : bl.map (·.1) = row) (up : row.Pairwise (· < ·)) (fd : BB.FD row bl) : (((dps bl).count 1 : Nat) : Int) = ((lens (outs row.length row)).length : Int) := BB.count_deep1 e up fd
section
variable {P : Program} {w : World} {K : PySem.W.Frag} {mg : Str → Option Value} {base : Heap}
set_option maxRecDepth 100000 in
theorem ok_law {f : Addr} {fd : FuncData} (F : Fun K "law" "law" s_law f fd) (nb : NbX mg) (h_L_state : Has P w K mg base 2 "_law_state" ["_law_script", "_law_k"] (spState K)) (h_L_take : Has P w K mg base 1 "_law_take" ["_law_state_here", "_law_many"] (spTake K)) (h_L_row : Has P w K mg base 2 "_law_row" ["_law_state_here", "_law_gaps"] spRow) (h_L_far : Has P w K mg base 2 "_law_far" ["_law_state_here", "_law_row_here"] spFar) (h_lengths : Has P w K mg base 3 "lengths" ["row"] spLen) (h_later : Has P w K mg base 4 "later" ["row", "steps"] spLater) (h_one_making : Has P w K mg base 4 "one_making" ["one", "other"] spOm) (h_carried_by : Has P w K mg base 3 "carried_by" ["row", "size"] spCb) (h_taken_by : Has P w K mg base 3 "taken_by" ["row", "size"] spTb) (h_takings : Has P w K mg base 2 "takings" ["row"] spTks) (h_peeled : Has P w K mg base 2 "peeled" ["row"] spPeel) (h_depths : Has P w K mg base 2 "depths" ["row"] spDp) (h_L_waves_right : Has P w K mg base 4 "_law_waves_right" ["_law_row_here", "_law_due"] spWr)  :
    FnOk P w K mg base CX0 5 f fd ["_law_script"] (spLaw K) := by
  have nd := sc_law.nd
  refine F.ok (k := 4) sc_law (fun vs H Q E h => ?_) (fun cdv A outer s H vs Q E hr h => ?_)
  · obtain ⟨a, ns, rfl, _⟩ := h
    rfl
  obtain ⟨a, ns, rfl, hS0, h63, q⟩ := h
  refine ⟨_, (pss_cons (ps_for PassesOwn.never rfl (pi_range1 rfl nb.range (pa_cons (pe_callB (call_max2 rfl) rfl nb.max boot_max (pa_cons pe_int (pa_cons (pe_callB (call_min2 rfl) rfl nb.min boot_min (pa_cons (pe_callB call_len_seq rfl nb.len PySem.boot_len (pa_cons (pv 0) pa_nil)) (pa_cons pe_int pa_nil))) pa_nil))) pa_nil)) (pg_name (i := 1) nd rfl (Or.inl rfl))
(pss_cons (ps_set (i := 2) nd rfl (Or.inl rfl) (pe_def h_L_state hr (pa_cons (pv 0) (pa_cons (pv 1) pa_nil))))
(pss_cons (ps_set (i := 3) nd rfl (Or.inl rfl) (pe_def h_L_row hr (pa_cons (pv 2) (pa_cons (pe_lst (pa_cons pe_int (pa_cons pe_int (pa_cons pe_int pa_nil)))) pa_nil))))
(pss_cons (ps_mid (ps_if (pt_cmpR op_eq (pe_def h_L_take hr (pa_cons (pv 2) (pa_cons pe_int pa_nil))) pe_int (nomark _))
(pss_one (ps_set (i := 3) nd rfl (Or.inl rfl) (pe_def h_L_far hr (pa_cons (pv 2) (pa_cons (pv 3) pa_nil)))))
pss_nil))
(pss_cons (ps_set (i := 4) nd rfl (Or.inr rfl) (pe_def h_lengths hr (pa_cons (pv 3) pa_nil)))
(pss_cons (ps_if (PW.pt (pw_or (pt_cmpR op_ne (pe_callB (call_sumT rfl) rfl nb.sum boot_sum (pa_cons (pv 4) pa_nil)) (pe_callB call_len_seq rfl nb.len PySem.boot_len (pa_cons (pv 3) pa_nil)) (nomark _)) (pw_or1 (pt_cmpR (op_neL hr.units0) (pe_revL (pe_callB call_sortL rfl nb.sorted boot_sorted (pa_cons (pv 4) pa_nil))) (pe_callTy call_list_of rfl nb.list boot_list (pa_cons (pv 4) pa_nil)) (nomark _)))))
(pss_one (ps_ret pe_bl))
pss_nil)
(pss_cons (ps_asg (pe_tup (pa_cons (pe_op op_sub (pe_def h_L_take hr (pa_cons (pv 2) (pa_cons pe_int pa_nil))) pe_int) (pa_cons (pe_op op_add pe_int (pe_def h_L_take hr (pa_cons (pv 2) (pa_cons pe_int pa_nil)))) pa_nil))) (pg_tup rfl (pgs_cons (pg_name (i := 5) nd rfl (Or.inl rfl)) (pgs_cons (pg_name (i := 6) nd rfl (Or.inr rfl)) pgs_nil))))
(pss_cons (ps_set (i := 7) nd rfl (Or.inl rfl) (pe_def h_later hr (pa_cons (pv 3) (pa_cons (pv 5) pa_nil))))
(pss_cons (ps_if (PW.pt (pw_or (pt_cmpR (op_neT hr.units0) (pe_def h_lengths hr (pa_cons (pv 7) pa_nil)) (pv 4) (nomark _)) (pw_or (pt_cmpR op_isntB (pe_def h_one_making hr (pa_cons (pv 3) (pa_cons (pv 7) pa_nil))) pe_bl (nomark _)) (pw_or1 (pt_cmpR (op_neT hr.units0) (pe_def h_lengths hr (pa_cons (pe_def h_carried_by hr (pa_cons (pv 3) (pa_cons (pv 6) pa_nil))) pa_nil)) (pv 4) (nomark _))))))
(pss_one (ps_ret pe_bl))
pss_nil)
(pss_cons (ps_if (pt_cmpR op_ne (pe_def h_taken_by hr (pa_cons (pv 3) (pa_cons (pv 6) pa_nil))) (pe_callB (call_sumI rfl) rfl nb.sum boot_sum (pa_cons (pe_comp1 (sc := defScope s_law) (N0 := ["_law_script", "_law_k", "_law_state_here", "_law_row_here", "_law_due", "_law_steps", "_law_size", "_law_there"]) (N := ["_law_size"]) (js := [6]) rfl rfl rfl (by exact ⟨rfl, by decide +kernel, by decide +kernel, by decide +kernel, rfl, rfl, by decide, by decide +kernel, by decide +kernel⟩) rfl
(pi_tup (pv 4))
(fun _ _ _ _ _ => by exact pts_nil)
(fun _ _ _ _ _ => by exact (pe_callB (call_min2 rfl) rfl nb.min boot_min (pa_cons (pv 1) (pa_cons (pv 0) pa_nil))))) pa_nil)) (nomark _))
(pss_one (ps_ret pe_bl))
pss_nil)
(pss_cons (ps_if (pt_cmpR (op_neL hr.units0) (pe_def h_takings hr (pa_cons (pv 3) pa_nil)) (pe_compC1 (sc := defScope s_law) (N0 := ["_law_script", "_law_k", "_law_state_here", "_law_row_here", "_law_due", "_law_steps", "_law_size", "_law_there"]) (N := ["_law_due"]) (js := [4]) rfl rfl rfl (by exact ⟨rfl, by decide +kernel, fun _ _ => rfl, fun _ => rfl, by decide +kernel, by decide +kernel, by decide +kernel, rfl, rfl, by decide, by decide +kernel, by decide +kernel⟩) rfl
(pi_range1 rfl nb.range (pa_cons (pe_callB call_len_seq rfl nb.len PySem.boot_len (pa_cons (pv 3) pa_nil)) pa_nil))
(fun _ _ _ _ _ => by exact pts_nil)
(fun _ _ _ _ _ => by exact (pe_callB (call_sumK K rfl rfl) rfl nb.sum boot_sum (pa_cons
(pe_comp1 (sc := scSum) (N0 := ["_law_one", "_law_due"]) (N := ["_law_one"]) (js := [0]) rfl rfl rfl (by exact ⟨rfl, by decide +kernel, by decide +kernel, by decide +kernel, rfl, rfl, by decide, by decide +kernel, by decide +kernel⟩) rfl
(pi_tupK K rfl (pv 1))
(fun _ _ _ _ _ => by exact pts_nil)
(fun _ _ _ _ _ => by exact (pe_callB (call_min2 rfl) rfl nb.min boot_min (pa_cons (pe_op op_add (pv 1) pe_int) (pa_cons (pv 0) pa_nil))))) pa_nil)))) (nomark _))
(pss_one (ps_ret pe_bl))
pss_nil)
(pss_cons (ps_if (pt_cmpR (op_neT hr.units0) (pe_def h_lengths hr (pa_cons (pe_def h_peeled hr (pa_cons (pv 3) pa_nil)) pa_nil)) (pe_callTy call_tuple_of rfl nb.tuple boot_tuple (pa_cons (pe_comp1 (sc := defScope s_law) (N0 := ["_law_script", "_law_k", "_law_state_here", "_law_row_here", "_law_due", "_law_steps", "_law_size", "_law_there"]) (N := []) (js := []) rfl rfl rfl (by exact ⟨rfl, by decide +kernel, by decide +kernel, by decide +kernel, rfl, rfl, by decide, by decide +kernel, by decide +kernel⟩) rfl
(pi_tup (pv 4))
(fun _ _ _ _ _ => by exact (pts_one (pt_cmpR op_gt (pv 0) pe_int (nomark _))))
(fun _ _ _ _ _ => by exact (pe_op op_sub (pv 0) pe_int))) pa_nil)) (nomark _))
(pss_one (ps_ret pe_bl))
pss_nil)
(pss_one (ps_if (PW.pt (pw_or (pt_cmpR op_ne (pe_bm PySem.F.plainAttrs_list PySem.F.slot_list_count PySem.F.type_list_count mt_count (pe_def h_depths hr (pa_cons (pv 3) pa_nil)) (pa_cons pe_int pa_nil)) (pe_callB call_len_seq rfl nb.len PySem.boot_len (pa_cons (pv 4) pa_nil)) (nomark _)) (pw_or (pt_not (pt_truth (pe_def h_L_waves_right hr (pa_cons (pv 3) (pa_cons (pv 4) pa_nil))) (fun _ => rfl))) (pw_or1 (pt_not (pt_truth (pe_def h_L_waves_right hr (pa_cons (pv 7) (pa_cons (pv 4) pa_nil))) (fun _ => rfl)))))))
(pss_one (ps_ret pe_bl))
pss_nil))))))))))))))
(pss_one (ps_ret pe_bl))), ?_⟩
  refine ⟨_, rfl, a, _, rfl, .inl hS0, _, _, rfl, _, _, rfl, _, rfl, ?_, ?_, ?_⟩
  · split <;> split <;> omega
  · split <;> split <;> omega
  refine for_range (fun i σ H' => Same H H' ∧ ∃ o1 o2 o3 o4 o5 o6 o7, σ = [some (.ref a), o1, o2, o3, o4, o5, o6, o7]) ⟨Same.refl H, _, _, _, _, _, _, _, rfl⟩ (fun i σ H0 hi hp => ?_) (fun σ H0 hp => q _)
  obtain ⟨sm, o1, o2, o3, o4, o5, o6, o7, rfl⟩ := hp
  refine ⟨_, rfl, _, rfl, a, ns, _, rfl, sm.seq hS0, by omega, fun r x b hr0 d => ?_⟩
  have st1 : StAt (upd H0 r (.lst [.int x, .bl b])) r x b := StAt.upd d
  generalize hG : upd H0 r (.lst [.int x, .bl b]) = G3 at st1 ⊢
  have fin : ∀ H', Keep r G3 H' → Same H H' := fun H' k => sm.trans (same_keep hr0 (by rw [hG]; exact k))
  refine ⟨_, rfl, (by show 3 ≤ sizeLine; decide), fun g hg => ?_⟩
  have s2 := same_new hg (.lst [.int 2, .int 5, .int 12])
  refine ⟨r, g, x, b, rfl, st1.same s2, upd_same, fun rr row H2 x2 kp2 st2 hrow ro => ?_⟩
  have k2 : Keep r G3 H2 := (Keep.of s2).trans kp2
  have rrr : rr ≠ r := ne_of hrow st2.1 (by intro z; cases z)
  refine ⟨fun σ' H' => ∃ (p : Addr) (ms : List Int) (y : Int), σ' = [some (.ref a), some (.int (0 + (i : Int))), some (.ref r), some (.ref p), o4, o5, o6, o7] ∧ Keep r G3 H' ∧ StAt H' r y b ∧ H' p = some (.tup (ms.map V.int)) ∧ ms.length ≤ 12 ∧ ms.Pairwise (· < ·) ∧ (∀ p ∈ ms, -1000000000 ≤ p ∧ p ≤ 1000000000), ?_, fun σ' H' hm => ?_⟩
  · refine ⟨_, rfl, r, x2, b, 3, rfl, st2, by decide, by decide, fun v3 x3 v30 v31 d3 => ⟨rfl, _, rfl, ?_⟩⟩
    have k3 := k2.trans (keep_upd r H2 (.lst [.int x3, .bl b]))
    have st3 : StAt (upd H2 r (.lst [.int x3, .bl b])) r x3 b := StAt.upd d3
    have hr3 : (upd H2 r (.lst [.int x3, .bl b])) rr = some (.tup (row.map V.int)) := by rw [upd_ne rrr]; exact hrow
    generalize upd H2 r (.lst [.int x3, .bl b]) = H3 at k3 st3 hr3 ⊢
    refine ite2 (fun c => ?_) (fun c => ?_)
    · refine ⟨_, rfl, _, rfl, r, rr, x3, b, row, rfl, st3, hr3, ro, fun rf row2 H4 x4 kp4 st4 hfar fa => ?_⟩
      exact ⟨rf, row2, x4, rfl, k3.trans kp4, st4, hfar, fa.len, fa.up, fa.bd⟩
    · exact ⟨rr, row, x3, rfl, k3, st3, hr3, ro.len, ro.up, fun p hp => by have := ro.bd p hp; omega⟩
  obtain ⟨p, ms, y, rfl, k4, st4, h4, m12, up, bd⟩ := hm
  have pr : p ≠ r := ne_of h4 st4.1 (by intro z; cases z)
  have rw_ : BB.Rw ms ms.length (-1000000000) 1000000000 := ⟨up, rfl, bd⟩
  have ok0 : Ok ms ms.length := ⟨rw_.mono (by decide) (by decide), m12⟩
  have ll := lens_len (row := ms) m12
  have ml : (ms.map V.int).length = ms.length := List.length_map ..
  have one := BB.lens_one (outs ms.length ms)
  have lsum := BB.lens_sum up
  have l12 : (lens (outs ms.length ms)).length ≤ 12 := by
    have : ∀ l : List Int, (∀ x ∈ l, 1 ≤ x) → (l.length : Int) ≤ l.sum := by
      intro l
      induction l with
      | nil => intro _; exact Int.le_refl _
      | cons x l ih =>
        intro h
        have a1 := ih fun y hy => h y (List.mem_cons_of_mem _ hy)
        have a2 := h x List.mem_cons_self
        rw [List.length_cons, List.sum_cons]
        omega
    have := this _ one
    omega
  -- the lengths
  refine ⟨_, rfl, p, ms, rfl, h4, m12, fun t H5 s5 h5 => ?_⟩
  have k5 := k4.trans (Keep.of s5)
  have st5 := st4.same s5
  have hp5 := s5 _ _ h4
  refine ⟨_, rfl, t, _, rfl, SqT.of h5, _, rfl, p, _, rfl, .inr (SqT.of hp5), rfl, false, ne_no (congrArg V.int (by rw [ml]; exact lsum)), iteF ?_⟩
  refine ⟨_, rfl, t, _, rfl, .inr h5, by omega, fun ks l6 pm so hl6 => ?_⟩
  have q6 := same_new hl6 (.lst (ks.map V.int))
  have ed := BB.down_one (BB.lens_fall _) pm so
  refine ⟨l6, _, rfl, SqL.of upd_same, fun l7 hl7 => ?_⟩
  rw [← List.map_reverse, ed] at *
  have q7 := same_new hl7 (.lst ((lens (outs ms.length ms)).map V.int))
  have S7 := q6.trans q7
  have f7 : (upd (upd H5 l6 (.lst (ks.map V.int))) l7 (.lst ((lens (outs ms.length ms)).map V.int))) l7 = some (.lst ((lens (outs ms.length ms)).map V.int)) := upd_same
  generalize upd (upd H5 l6 (.lst (ks.map V.int))) l7 (.lst ((lens (outs ms.length ms)).map V.int)) = H7 at S7 f7 ⊢
  refine ⟨_, rfl, t, _, rfl, .inr (SqT.of (S7 _ _ h5)), fun l8 hl8 => ?_⟩
  have q8 := same_new hl8 (.lst ((lens (outs ms.length ms)).map V.int))
  refine ⟨l7, l8, _, _, rfl, rfl, SqL.of (q8 _ _ f7), SqL.of upd_same, rfl, false, ne_no rfl, iteF ?_⟩
  have S8 := S7.trans q8
  generalize upd H7 l8 (.lst ((lens (outs ms.length ms)).map V.int)) = H8 at S8 ⊢
  have k8 := k5.trans (Keep.of S8)
  have st8 := st5.same S8
  have hp8 := S8 _ _ hp5
  have ht8 := S8 _ _ h5
  have tr : t ≠ r := ne_of ht8 st8.1 (by intro z; cases z)
  -- steps and a size
  refine ⟨_, rfl, r, y, b, 31, rfl, st8, by decide, by decide, fun v9 x9 v90 v91 d9 => ⟨_, _, rfl, rfl, ?_⟩⟩
  have k9 := k8.trans (keep_upd r H8 (.lst [.int x9, .bl b]))
  have st9 : StAt (upd H8 r (.lst [.int x9, .bl b])) r x9 b := StAt.upd d9
  have hp9 : (upd H8 r (.lst [.int x9, .bl b])) p = some (.tup (ms.map V.int)) := by rw [upd_ne pr]; exact hp8
  have ht9 : (upd H8 r (.lst [.int x9, .bl b])) t = some (.tup ((lens (outs ms.length ms)).map V.int)) := by rw [upd_ne tr]; exact ht8
  generalize upd H8 r (.lst [.int x9, .bl b]) = H9 at k9 st9 hp9 ht9 ⊢
  refine ⟨_, rfl, r, x9, b, 12, rfl, st9, by decide, by decide, fun v10 x10 v100 v101 d10 => ⟨_, _, rfl, rfl, ?_⟩⟩
  obtain ⟨sz, esz⟩ : ∃ z : Nat, 1 + v10 = (z : Int) := ⟨(1 + v10).toNat, by omega⟩
  have kA := k9.trans (keep_upd r H9 (.lst [.int x10, .bl b]))
  have hpA : (upd H9 r (.lst [.int x10, .bl b])) p = some (.tup (ms.map V.int)) := by rw [upd_ne pr]; exact hp9
  have htA : (upd H9 r (.lst [.int x10, .bl b])) t = some (.tup ((lens (outs ms.length ms)).map V.int)) := by rw [upd_ne tr]; exact ht9
  generalize upd H9 r (.lst [.int x10, .bl b]) = HA at kA hpA htA ⊢
  refine ⟨(by show 2 ≤ sizeLine; decide), fun tt htt => ?_⟩
  have sTT := same_new htt (.tup [.int (v9 - 15), .int (1 + v10)])
  refine ⟨tt, _, rfl, SqT.of upd_same, rfl, _, _, rfl, _, _, rfl, rfl, ?_⟩
  replace kA := kA.trans (Keep.of sTT)
  replace hpA := sTT _ _ hpA
  replace htA := sTT _ _ htA
  generalize upd HA tt (.tup [.int (v9 - 15), .int (1 + v10)]) = HA at kA hpA htA ⊢
  -- later
  refine ⟨_, rfl, _, rfl, p, ms, ms.length, v9 - 15, rfl, hpA, rw_.mono (by decide) (by decide), m12, by omega, by omega, fun u HB sB hB => ?_⟩
  obtain ⟨A', B', rwu, lu⟩ := lat_same (v9 - 15) rw_
  have bdu : ∀ x ∈ BB.lat ms.length (v9 - 15) ms, -4000000000 ≤ x ∧ x ≤ 4000000000 := by
    have eb : ∀ n : Nat, n ≤ 60 → _ := fun n hn => ok_bound (rw_.mono (by decide) (by decide)) m12 n hn (Int.le_refl (-2000000000)) (Int.le_refl 2000000000) ms.length
    intro x hx
    unfold BB.lat at hx
    split at hx
    · exact (eb _ (by omega)).1.1.bd x hx
    · exact (eb _ (by omega)).2.1.bd x hx
  have lnu : (BB.lat ms.length (v9 - 15) ms).length ≤ 12 := by rw [rwu.len]; exact m12
  have upu := rwu.up
  generalize BB.lat ms.length (v9 - 15) ms = us at hB rwu lu bdu lnu upu
  have hpB := sB _ _ hpA
  have htB := sB _ _ htA
  refine ⟨_, rfl, u, us, rfl, hB, lnu, fun t1 HC sC hC => ?_⟩
  refine ⟨_, rfl, t1, t, _, _, rfl, rfl, SqT.of hC, SqT.of (sC _ _ htB), false, ne_no lu, iteF ?_⟩
  refine ⟨_, rfl, _, rfl, p, u, ms, us, rfl, sC _ _ hpB, sC _ _ hB, m12, lnu, fun HD sD => ?_⟩
  rw [decide_eq_true lu.symm]
  refine ⟨true, rfl, false, isnt_true, iteF ?_⟩
  have SD := sC.trans sD
  refine ⟨_, rfl, _, rfl, p, ms, _, sz, by rw [← esz]; rfl, SD _ _ hpB, ok0, by omega, by omega, fun t2 HE sE hE => ?_⟩
  refine ⟨t2, _, rfl, hE, by rw [(rw_.step sz).len]; exact m12, fun t3 HF sF hF => ?_⟩
  have SF := SD.trans (sE.trans sF)
  refine ⟨_, rfl, t3, t, _, _, rfl, rfl, SqT.of hF, SqT.of (SF _ _ htB), false, ne_no (lens_same sz rw_), iteF ?_⟩
  -- takings
  refine ⟨_, rfl, _, rfl, p, ms, _, sz, by rw [← esz]; rfl, SF _ _ hpB, ok0, by omega, by omega, fun HG sG => ?_⟩
  have htG := sG _ _ (SF _ _ htB)
  refine ⟨_, rfl, t, rfl, ⟨_, SqT.of htG⟩, fun D hD => ?_⟩
  refine comp_go ((lens (outs ms.length ms)).map V.int).length (by rw [List.length_map, sizeLine_eq]; omega) (fun j => .int (if (lens (outs ms.length ms)).getD j 0 < 1 + v10 then (lens (outs ms.length ms)).getD j 0 else 1 + v10)) (fun σ => ∃ o1, σ = [o1, some (.int (1 + v10))]) _ hD (by exact ⟨_, rfl⟩) (items_tup htG) (fun j x σ' HH hj sH im hσ R hR => ?_) (fun HH sH hDH => ?_)
  · obtain ⟨o1, rfl⟩ := hσ
    obtain rfl := num_at im
    exact ⟨_, rfl, _, rfl, _, _, rfl, hR _ _ _ ⟨_, rfl⟩ (Same.refl _) rfl⟩
  rw [List.length_map, sum_lim, esz] at hDH
  refine ⟨D, _, rfl, SqL.of hDH, rfl, false, ne_no (congrArg V.int (BB.taken_lens sz up)), iteF ?_⟩
  have SH := SF.trans (sG.trans sH)
  have hpH := SH _ _ hpB
  refine ⟨_, rfl, p, ms, _, rfl, hpH, ok0, fun t4 HI sI hI => ?_⟩
  have hpI := sI _ _ hpH
  have htI := sI _ _ (SH _ _ htB)
  refine ⟨_, rfl, p, _, rfl, .inr (SqT.of hpI), _, rfl, by omega, by omega, fun D2 hD2 => ?_⟩
  rw [show (((ms.map V.int).length : Int)).toNat = ms.length by rw [ml]; omega]
  refine comp_go ms.length (by rw [sizeLine_eq]; omega) (fun j => .int ((BB.taken (j + 1) ms : Nat) : Int)) (fun σ => ∃ o1, σ = [o1, some (.ref t)]) (fun j H' x => x = .int (0 + (j : Int))) hD2 (by exact ⟨_, rfl⟩) (fun j H' _ => items_rng 0 _ j H' (Same.refl _)) (fun j x σ' HJ hj sJ im hσ R hR => ?_) (fun HJ sJ hDJ => ?_)
  · obtain ⟨o1, rfl⟩ := hσ
    subst im
    have htJ := sJ _ _ htI
    refine ⟨_, rfl, t, rfl, ⟨_, SqT.of htJ⟩, fun D3 hD3 => ?_⟩
    refine comp_go ((lens (outs ms.length ms)).map V.int).length (by rw [List.length_map, sizeLine_eq]; omega) (fun k => .int (if (lens (outs ms.length ms)).getD k 0 < ((j + 1 : Nat) : Int) then (lens (outs ms.length ms)).getD k 0 else ((j + 1 : Nat) : Int))) (fun σ => ∃ o2, σ = [o2, some (.int (0 + (j : Int)))]) _ hD3 (by exact ⟨_, rfl⟩) (items_tup htJ) (fun k y2 σ2 HK hk sK imK hσK RK hRK => ?_) (fun HK sK hDK => ?_)
    · obtain ⟨o2, rfl⟩ := hσK
      obtain rfl := num_at imK
      refine ⟨_, rfl, _, _, rfl, rfl, _, rfl, _, _, rfl, hRK _ _ _ ⟨_, rfl⟩ (Same.refl _) ?_⟩
      rw [show ((j + 1 : Nat) : Int) = 0 + (j : Int) + 1 by omega]
    rw [List.length_map, sum_lim] at hDK
    refine ⟨D3, _, rfl, SqL.of hDK, hR _ _ _ ⟨_, rfl⟩ sK ?_⟩
    rw [BB.taken_lens (j + 1) up]
  have e5 : (List.range ms.length).map (fun (j : Nat) => V.int ((BB.taken (j + 1) ms : Nat) : Int)) = (tks ms.length ms).map V.int := by
    unfold tks
    rw [List.map_map]
    rfl
  rw [e5] at hDJ
  refine ⟨t4, D2, _, _, rfl, rfl, SqL.of (sJ _ _ hI), SqL.of hDJ, rfl, false, ne_no rfl, iteF ?_⟩
  have SJ := SH.trans (sI.trans sJ)
  have hpJ := SJ _ _ hpB
  -- peeled
  refine ⟨_, rfl, p, ms, rfl, hpJ, m12, fun tp HL sL hL => ?_⟩
  have pl : (BB.peel ms).length ≤ 12 := Nat.le_trans (BB.peel_le ms) m12
  refine ⟨tp, _, rfl, hL, pl, fun tl HM sM hM => ?_⟩
  have SM := SJ.trans (sL.trans sM)
  have htM := SM _ _ htB
  refine ⟨_, rfl, t, rfl, ⟨_, SqT.of htM⟩, fun D4 hD4 => ?_⟩
  refine comp_sel ((lens (outs ms.length ms)).map V.int).length (by rw [List.length_map, sizeLine_eq]; omega) (fun k => decide (1 < (lens (outs ms.length ms)).getD k 0)) (fun k => .int ((fun l => l - 1) ((lens (outs ms.length ms)).getD k 0))) (fun σ => ∃ o1, σ = [o1]) _ hD4 (by exact ⟨_, rfl⟩) (items_tup htM) (fun k y2 σ2 HN hk sN imN hσ R S hR hS => ?_) (fun HN sN hD4' => ?_)
  · obtain ⟨o1, rfl⟩ := hσ
    obtain rfl := num_at imN
    refine ⟨_, rfl, _, _, rfl, rfl, _, rfl, ?_⟩
    by_cases c : 1 < (lens (outs ms.length ms)).getD k 0
    · rw [decide_eq_true (show (lens (outs ms.length ms)).getD k 0 > 1 from c)]
      exact iteT ⟨_, rfl, _, _, rfl, rfl, hR (decide_eq_true c) _ _ _ ⟨_, rfl⟩ (Same.refl _) rfl⟩
    · rw [decide_eq_false (show ¬ (lens (outs ms.length ms)).getD k 0 > 1 from c)]
      exact iteF (hS (decide_eq_false c) _ _ ⟨_, rfl⟩ (Same.refl _))
  rw [List.length_map, sel_ints (lens (outs ms.length ms)) (fun z => decide (1 < z)) (fun l => l - 1), BB.lens_peel up] at hD4'
  refine ⟨D4, _, rfl, .inl ⟨SqL.of hD4', fun tE htE => ?_⟩⟩
  have kE := same_new htE (.tup ((lens (outs (BB.peel ms).length (BB.peel ms))).map V.int))
  refine ⟨tl, tE, _, _, rfl, rfl, SqT.of (kE _ _ (sN _ _ hM)), SqT.of upd_same, false, ne_no rfl, iteF ?_⟩
  have SN := SM.trans (sN.trans kE)
  generalize upd HN tE (.tup ((lens (outs (BB.peel ms).length (BB.peel ms))).map V.int)) = GE at SN ⊢
  -- depths and waves
  refine ⟨_, rfl, p, ms, rfl, SN _ _ hpB, up, m12, fun rd bd2 HO sO nO hO eO fdO => ?_⟩
  refine ⟨.inl ⟨rfl, _, SqL.of hO⟩, rd, _, _, rfl, rfl, hO, _, rfl, t, _, rfl, .inr (SqT.of (sO _ _ (SN _ _ htB))), rfl, false, ne_no (congrArg V.int (by rw [List.length_map]; exact count_one eO up fdO)), iteF ?_⟩
  have SO := SN.trans sO
  refine ⟨_, rfl, _, rfl, p, t, ms, rfl, SO _ _ hpB, SO _ _ htB, up, m12, fun x hx => by have := bd x hx; omega, fun HP sP => ⟨_, rfl, iteF ?_⟩⟩
  have SP := SO.trans sP
  refine ⟨_, rfl, _, rfl, u, t, us, rfl, SP _ _ hB, by rw [lu]; exact SP _ _ htB, upu, lnu, bdu, fun HQ sQ => ⟨_, rfl, iteF ?_⟩⟩
  exact ⟨fin _ (kA.trans (Keep.of (sB.trans (SP.trans sQ)))), _, _, _, _, _, _, _, rfl⟩
end
end K34
end
namespace K34
open PySem PySem.Spec PyProof.Rows L2
set_option maxHeartbeats 4000000
set_option Elab.async false
theorem all_mk {l : PySem.W.OpenLaw} {w : World} {K : PySem.W.Frag} {h : Heap} {mg : Str → Option Value} {fa f1 f2 f3 f4 f5 f6 f7 f8 f9 f10 f11 f12 f13 f14 f15 f16 f17 f18 f19 f20 f21 f22 f23 f24 f25 f26 f27 f28 f29 f30 : Addr} (X : K.In h) (G : h.Ns mainGlobals mg) (hfa : mg "law" = some (.ref fa))
    {od1 an1 od2 an2 od3 an3 od4 an4 od5 an5 od6 an6 od7 an7 od8 an8 od9 an9 od10 an10 od11 an11 od12 an12 od13 an13 od14 an14 od15 an15 od16 an16 od17 an17 od18 an18 od19 an19 od20 an20 od21 an21 od22 an22 od23 an23 od24 an24 od25 an25 od26 an26 od27 an27 od28 an28 od29 an29 od30 an30 : Option Addr} {sl1 sl2 sl3 sl4 sl5 sl6 sl7 sl8 sl9 sl10 sl11 sl12 sl13 sl14 sl15 sl16 sl17 sl18 sl19 sl20 sl21 sl22 sl23 sl24 sl25 sl26 sl27 sl28 sl29 sl30 : Array (Option Value)} {oc1 kV1 dc1 pm1 cd1 ct1 oc2 kV2 dc2 pm2 cd2 ct2 oc3 kV3 dc3 pm3 cd3 ct3 oc4 kV4 dc4 pm4 cd4 ct4 oc5 kV5 dc5 pm5 cd5 ct5 oc6 kV6 dc6 pm6 cd6 ct6 oc7 kV7 dc7 pm7 cd7 ct7 oc8 kV8 dc8 pm8 cd8 ct8 oc9 kV9 dc9 pm9 cd9 ct9 oc10 kV10 dc10 pm10 cd10 ct10 oc11 kV11 dc11 pm11 cd11 ct11 oc12 kV12 dc12 pm12 cd12 ct12 oc13 kV13 dc13 pm13 cd13 ct13 oc14 kV14 dc14 pm14 cd14 ct14 oc15 kV15 dc15 pm15 cd15 ct15 oc16 kV16 dc16 pm16 cd16 ct16 oc17 kV17 dc17 pm17 cd17 ct17 oc18 kV18 dc18 pm18 cd18 ct18 oc19 kV19 dc19 pm19 cd19 ct19 oc20 kV20 dc20 pm20 cd20 ct20 oc21 kV21 dc21 pm21 cd21 ct21 oc22 kV22 dc22 pm22 cd22 ct22 oc23 kV23 dc23 pm23 cd23 ct23 oc24 kV24 dc24 pm24 cd24 ct24 oc25 kV25 dc25 pm25 cd25 ct25 oc26 kV26 dc26 pm26 cd26 ct26 oc27 kV27 dc27 pm27 cd27 ct27 oc28 kV28 dc28 pm28 cd28 ct28 oc29 kV29 dc29 pm29 cd29 ct29 oc30 kV30 dc30 pm30 cd30 ct30 : Value}
    {u1 u2 : Value}
    (a1 : PySem.W.nsIn K mainGlobals "is_number" = some (some (.ref f1))) (l1 : K.lookup f1 = some ⟨oc1, od1, .func (PySem.W.fnOf "is_number" "is_number" (defArgs s_is_number) (defBody s_is_number) (defScope s_is_number) .none kV1 dc1 pm1 an1 cd1 ct1), sl1⟩) (c1 : PySem.W.codeIn K cd1 "is_number" = true) (k1 : PySem.W.keepIn K (.ref f1) = true)
    (a2 : PySem.W.nsIn K mainGlobals "need_number" = some (some (.ref f2))) (l2 : K.lookup f2 = some ⟨oc2, od2, .func (PySem.W.fnOf "need_number" "need_number" (defArgs s_need_number) (defBody s_need_number) (defScope s_need_number) .none kV2 dc2 pm2 an2 cd2 ct2), sl2⟩) (c2 : PySem.W.codeIn K cd2 "need_number" = true) (k2 : PySem.W.keepIn K (.ref f2) = true)
    (a3 : PySem.W.nsIn K mainGlobals "carry" = some (some (.ref f3))) (l3 : K.lookup f3 = some ⟨oc3, od3, .func (PySem.W.fnOf "carry" "carry" (defArgs s_carry) (defBody s_carry) (defScope s_carry) .none kV3 dc3 pm3 an3 cd3 ct3), sl3⟩) (c3 : PySem.W.codeIn K cd3 "carry" = true) (k3 : PySem.W.keepIn K (.ref f3) = true)
    (a4 : PySem.W.nsIn K mainGlobals "mirrored" = some (some (.ref f4))) (l4 : K.lookup f4 = some ⟨oc4, od4, .func (PySem.W.fnOf "mirrored" "mirrored" (defArgs s_mirrored) (defBody s_mirrored) (defScope s_mirrored) .none kV4 dc4 pm4 an4 cd4 ct4), sl4⟩) (c4 : PySem.W.codeIn K cd4 "mirrored" = true) (k4 : PySem.W.keepIn K (.ref f4) = true)
    (a5 : PySem.W.nsIn K mainGlobals "carry_back" = some (some (.ref f5))) (l5 : K.lookup f5 = some ⟨oc5, od5, .func (PySem.W.fnOf "carry_back" "carry_back" (defArgs s_carry_back) (defBody s_carry_back) (defScope s_carry_back) .none kV5 dc5 pm5 an5 cd5 ct5), sl5⟩) (c5 : PySem.W.codeIn K cd5 "carry_back" = true) (k5 : PySem.W.keepIn K (.ref f5) = true)
    (a6 : PySem.W.nsIn K mainGlobals "blocks_in" = some (some (.ref f6))) (l6 : K.lookup f6 = some ⟨oc6, od6, .func (PySem.W.fnOf "blocks_in" "blocks_in" (defArgs s_blocks_in) (defBody s_blocks_in) (defScope s_blocks_in) .none kV6 dc6 pm6 an6 cd6 ct6), sl6⟩) (c6 : PySem.W.codeIn K cd6 "blocks_in" = true) (k6 : PySem.W.keepIn K (.ref f6) = true)
    (a7 : PySem.W.nsIn K mainGlobals "closed_up" = some (some (.ref f7))) (l7 : K.lookup f7 = some ⟨oc7, od7, .func (PySem.W.fnOf "closed_up" "closed_up" (defArgs s_closed_up) (defBody s_closed_up) (defScope s_closed_up) .none kV7 dc7 pm7 an7 cd7 ct7), sl7⟩) (c7 : PySem.W.codeIn K cd7 "closed_up" = true) (k7 : PySem.W.keepIn K (.ref f7) = true)
    (a8 : PySem.W.nsIn K mainGlobals "lengths_from" = some (some (.ref f8))) (l8 : K.lookup f8 = some ⟨oc8, od8, .func (PySem.W.fnOf "lengths_from" "lengths_from" (defArgs s_lengths_from) (defBody s_lengths_from) (defScope s_lengths_from) .none kV8 dc8 pm8 an8 cd8 ct8), sl8⟩) (c8 : PySem.W.codeIn K cd8 "lengths_from" = true) (k8 : PySem.W.keepIn K (.ref f8) = true)
    (a9 : PySem.W.nsIn K mainGlobals "pairs" = some (some (.ref f9))) (l9 : K.lookup f9 = some ⟨oc9, od9, .func (PySem.W.fnOf "pairs" "pairs" (defArgs s_pairs) (defBody s_pairs) (defScope s_pairs) .none kV9 dc9 pm9 an9 cd9 ct9), sl9⟩) (c9 : PySem.W.codeIn K cd9 "pairs" = true) (k9 : PySem.W.keepIn K (.ref f9) = true)
    (a10 : PySem.W.nsIn K mainGlobals "depths" = some (some (.ref f10))) (l10 : K.lookup f10 = some ⟨oc10, od10, .func (PySem.W.fnOf "depths" "depths" (defArgs s_depths) (defBody s_depths) (defScope s_depths) .none kV10 dc10 pm10 an10 cd10 ct10), sl10⟩) (c10 : PySem.W.codeIn K cd10 "depths" = true) (k10 : PySem.W.keepIn K (.ref f10) = true)
    (a11 : PySem.W.nsIn K mainGlobals "peeled" = some (some (.ref f11))) (l11 : K.lookup f11 = some ⟨oc11, od11, .func (PySem.W.fnOf "peeled" "peeled" (defArgs s_peeled) (defBody s_peeled) (defScope s_peeled) .none kV11 dc11 pm11 an11 cd11 ct11), sl11⟩) (c11 : PySem.W.codeIn K cd11 "peeled" = true) (k11 : PySem.W.keepIn K (.ref f11) = true)
    (a12 : PySem.W.nsIn K mainGlobals "lengths" = some (some (.ref f12))) (l12 : K.lookup f12 = some ⟨oc12, od12, .func (PySem.W.fnOf "lengths" "lengths" (defArgs s_lengths) (defBody s_lengths) (defScope s_lengths) .none kV12 dc12 pm12 an12 cd12 ct12), sl12⟩) (c12 : PySem.W.codeIn K cd12 "lengths" = true) (k12 : PySem.W.keepIn K (.ref f12) = true)
    (a13 : PySem.W.nsIn K mainGlobals "one_making" = some (some (.ref f13))) (l13 : K.lookup f13 = some ⟨oc13, od13, .func (PySem.W.fnOf "one_making" "one_making" (defArgs s_one_making) (defBody s_one_making) (defScope s_one_making) .none kV13 dc13 pm13 an13 cd13 ct13), sl13⟩) (c13 : PySem.W.codeIn K cd13 "one_making" = true) (k13 : PySem.W.keepIn K (.ref f13) = true)
    (a14 : PySem.W.nsIn K mainGlobals "runs_in" = some (some (.ref f14))) (l14 : K.lookup f14 = some ⟨oc14, od14, .func (PySem.W.fnOf "runs_in" "runs_in" (defArgs s_runs_in) (defBody s_runs_in) (defScope s_runs_in) .none kV14 dc14 pm14 an14 cd14 ct14), sl14⟩) (c14 : PySem.W.codeIn K cd14 "runs_in" = true) (k14 : PySem.W.keepIn K (.ref f14) = true)
    (a15 : PySem.W.nsIn K mainGlobals "first_short" = some (some (.ref f15))) (l15 : K.lookup f15 = some ⟨oc15, od15, .func (PySem.W.fnOf "first_short" "first_short" (defArgs s_first_short) (defBody s_first_short) (defScope s_first_short) .none kV15 dc15 pm15 an15 cd15 ct15), sl15⟩) (c15 : PySem.W.codeIn K cd15 "first_short" = true) (k15 : PySem.W.keepIn K (.ref f15) = true)
    (a16 : PySem.W.nsIn K mainGlobals "without_wave" = some (some (.ref f16))) (l16 : K.lookup f16 = some ⟨oc16, od16, .func (PySem.W.fnOf "without_wave" "without_wave" (defArgs s_without_wave) (defBody s_without_wave) (defScope s_without_wave) .none kV16 dc16 pm16 an16 cd16 ct16), sl16⟩) (c16 : PySem.W.codeIn K cd16 "without_wave" = true) (k16 : PySem.W.keepIn K (.ref f16) = true)
    (a17 : PySem.W.nsIn K mainGlobals "waves" = some (some (.ref f17))) (l17 : K.lookup f17 = some ⟨oc17, od17, .func (PySem.W.fnOf "waves" "waves" (defArgs s_waves) (defBody s_waves) (defScope s_waves) .none kV17 dc17 pm17 an17 cd17 ct17), sl17⟩) (c17 : PySem.W.codeIn K cd17 "waves" = true) (k17 : PySem.W.keepIn K (.ref f17) = true)
    (a18 : PySem.W.nsIn K mainGlobals "carried_by" = some (some (.ref f18))) (l18 : K.lookup f18 = some ⟨oc18, od18, .func (PySem.W.fnOf "carried_by" "carried_by" (defArgs s_carried_by) (defBody s_carried_by) (defScope s_carried_by) .none kV18 dc18 pm18 an18 cd18 ct18), sl18⟩) (c18 : PySem.W.codeIn K cd18 "carried_by" = true) (k18 : PySem.W.keepIn K (.ref f18) = true)
    (a19 : PySem.W.nsIn K mainGlobals "taken_by" = some (some (.ref f19))) (l19 : K.lookup f19 = some ⟨oc19, od19, .func (PySem.W.fnOf "taken_by" "taken_by" (defArgs s_taken_by) (defBody s_taken_by) (defScope s_taken_by) .none kV19 dc19 pm19 an19 cd19 ct19), sl19⟩) (c19 : PySem.W.codeIn K cd19 "taken_by" = true) (k19 : PySem.W.keepIn K (.ref f19) = true)
    (a20 : PySem.W.nsIn K mainGlobals "takings" = some (some (.ref f20))) (l20 : K.lookup f20 = some ⟨oc20, od20, .func (PySem.W.fnOf "takings" "takings" (defArgs s_takings) (defBody s_takings) (defScope s_takings) .none kV20 dc20 pm20 an20 cd20 ct20), sl20⟩) (c20 : PySem.W.codeIn K cd20 "takings" = true) (k20 : PySem.W.keepIn K (.ref f20) = true)
    (a21 : PySem.W.nsIn K mainGlobals "carried" = some (some (.ref f21))) (l21 : K.lookup f21 = some ⟨oc21, od21, .func (PySem.W.fnOf "carried" "carried" (defArgs s_carried) (defBody s_carried) (defScope s_carried) .none kV21 dc21 pm21 an21 cd21 ct21), sl21⟩) (c21 : PySem.W.codeIn K cd21 "carried" = true) (k21 : PySem.W.keepIn K (.ref f21) = true)
    (a22 : PySem.W.nsIn K mainGlobals "undone" = some (some (.ref f22))) (l22 : K.lookup f22 = some ⟨oc22, od22, .func (PySem.W.fnOf "undone" "undone" (defArgs s_undone) (defBody s_undone) (defScope s_undone) .none kV22 dc22 pm22 an22 cd22 ct22), sl22⟩) (c22 : PySem.W.codeIn K cd22 "undone" = true) (k22 : PySem.W.keepIn K (.ref f22) = true)
    (a23 : PySem.W.nsIn K mainGlobals "later" = some (some (.ref f23))) (l23 : K.lookup f23 = some ⟨oc23, od23, .func (PySem.W.fnOf "later" "later" (defArgs s_later) (defBody s_later) (defScope s_later) .none kV23 dc23 pm23 an23 cd23 ct23), sl23⟩) (c23 : PySem.W.codeIn K cd23 "later" = true) (k23 : PySem.W.keepIn K (.ref f23) = true)
    (a24 : PySem.W.nsIn K mainGlobals "_law_cell_at" = some (some (.ref f24))) (l24 : K.lookup f24 = some ⟨oc24, od24, .func (PySem.W.fnOf "_law_cell_at" "_law_cell_at" (defArgs s_L_cell_at) (defBody s_L_cell_at) (defScope s_L_cell_at) .none kV24 dc24 pm24 an24 cd24 ct24), sl24⟩) (c24 : PySem.W.codeIn K cd24 "_law_cell_at" = true) (k24 : PySem.W.keepIn K (.ref f24) = true)
    (a25 : PySem.W.nsIn K mainGlobals "_law_state" = some (some (.ref f25))) (l25 : K.lookup f25 = some ⟨oc25, od25, .func (PySem.W.fnOf "_law_state" "_law_state" (defArgs s_L_state) (defBody s_L_state) (defScope s_L_state) .none kV25 dc25 pm25 an25 cd25 ct25), sl25⟩) (c25 : PySem.W.codeIn K cd25 "_law_state" = true) (k25 : PySem.W.keepIn K (.ref f25) = true)
    (a26 : PySem.W.nsIn K mainGlobals "_law_take" = some (some (.ref f26))) (l26 : K.lookup f26 = some ⟨oc26, od26, .func (PySem.W.fnOf "_law_take" "_law_take" (defArgs s_L_take) (defBody s_L_take) (defScope s_L_take) .none kV26 dc26 pm26 an26 cd26 ct26), sl26⟩) (c26 : PySem.W.codeIn K cd26 "_law_take" = true) (k26 : PySem.W.keepIn K (.ref f26) = true)
    (a27 : PySem.W.nsIn K mainGlobals "_law_row" = some (some (.ref f27))) (l27 : K.lookup f27 = some ⟨oc27, od27, .func (PySem.W.fnOf "_law_row" "_law_row" (defArgs s_L_row) (defBody s_L_row) (defScope s_L_row) .none kV27 dc27 pm27 an27 cd27 ct27), sl27⟩) (c27 : PySem.W.codeIn K cd27 "_law_row" = true) (k27 : PySem.W.keepIn K (.ref f27) = true)
    (a28 : PySem.W.nsIn K mainGlobals "_law_far" = some (some (.ref f28))) (l28 : K.lookup f28 = some ⟨oc28, od28, .func (PySem.W.fnOf "_law_far" "_law_far" (defArgs s_L_far) (defBody s_L_far) (defScope s_L_far) .none kV28 dc28 pm28 an28 cd28 ct28), sl28⟩) (c28 : PySem.W.codeIn K cd28 "_law_far" = true) (k28 : PySem.W.keepIn K (.ref f28) = true)
    (a29 : PySem.W.nsIn K mainGlobals "_law_waves_right" = some (some (.ref f29))) (l29 : K.lookup f29 = some ⟨oc29, od29, .func (PySem.W.fnOf "_law_waves_right" "_law_waves_right" (defArgs s_L_waves_right) (defBody s_L_waves_right) (defScope s_L_waves_right) .none kV29 dc29 pm29 an29 cd29 ct29), sl29⟩) (c29 : PySem.W.codeIn K cd29 "_law_waves_right" = true) (k29 : PySem.W.keepIn K (.ref f29) = true)
    (a30 : PySem.W.nsIn K mainGlobals "law" = some (some (.ref f30))) (l30 : K.lookup f30 = some ⟨oc30, od30, .func (PySem.W.fnOf "law" "law" (defArgs s_law) (defBody s_law) (defScope s_law) .none kV30 dc30 pm30 an30 cd30 ct30), sl30⟩) (c30 : PySem.W.codeIn K cd30 "law" = true) (k30 : PySem.W.keepIn K (.ref f30) = true)
    (n1 : PySem.W.nsIn K mainGlobals "GREATEST_SIZE" = some (some u1)) (e1 : RelV (.int 12) u1)
    (n2 : PySem.W.nsIn K mainGlobals "MOST_STEPS" = some (some u2)) (e2 : RelV (.int 60) u2)
    (z1 : PySem.W.nsIn K mainGlobals "len" = some none) (z2 : PySem.W.nsIn K mainGlobals "isinstance" = some none) (z3 : PySem.W.nsIn K mainGlobals "bool" = some none) (z4 : PySem.W.nsIn K mainGlobals "int" = some none) (z5 : PySem.W.nsIn K mainGlobals "tuple" = some none) (z6 : PySem.W.nsIn K mainGlobals "list" = some none) (z7 : PySem.W.nsIn K mainGlobals "range" = some none) (z8 : PySem.W.nsIn K mainGlobals "zip" = some none) (z9 : PySem.W.nsIn K mainGlobals "all" = some none) (z10 : PySem.W.nsIn K mainGlobals "max" = some none) (z11 : PySem.W.nsIn K mainGlobals "min" = some none) (z12 : PySem.W.nsIn K mainGlobals "reversed" = some none) (z13 : PySem.W.nsIn K mainGlobals "abs" = some none) (z14 : PySem.W.nsIn K mainGlobals "dict" = some none) (z15 : PySem.W.nsIn K mainGlobals "sorted" = some none) (z16 : PySem.W.nsIn K mainGlobals "enumerate" = some none) (z17 : PySem.W.nsIn K mainGlobals "set" = some none) (z18 : PySem.W.nsIn K mainGlobals "sum" = some none) :
    ∃ fd : FuncData, (∀ (s : Shared) (v : Value), BindsTo s fd ⟨[v], []⟩ [("_law_script", v)]) ∧ ∀ base : Heap, K.In base → base.Ns mainGlobals mg → FnOk l.prog w K mg base CX0 5 fa fd ["_law_script"] (spLaw K) := by
  have e := hfa.symm.trans (PySem.W.mg_of X G a30)
  cases e
  have F1 := fun_mk (st := s_is_number) l1 c1 k1
  have b1 := F1.binds (ps := ["thing", "least", "greatest"]) fun _ _ _ _ _ _ us hl => match us, hl with | [_, _, _], _ => rfl
  have F2 := fun_mk (st := s_need_number) l2 c2 k2
  have b2 := F2.binds (ps := ["thing", "least", "greatest"]) fun _ _ _ _ _ _ us hl => match us, hl with | [_, _, _], _ => rfl
  have F3 := fun_mk (st := s_carry) l3 c3 k3
  have b3 := F3.binds (ps := ["row", "size"]) fun _ _ _ _ _ _ us hl => match us, hl with | [_, _], _ => rfl
  have F4 := fun_mk (st := s_mirrored) l4 c4 k4
  have b4 := F4.binds (ps := ["row"]) fun _ _ _ _ _ _ us hl => match us, hl with | [_], _ => rfl
  have F5 := fun_mk (st := s_carry_back) l5 c5 k5
  have b5 := F5.binds (ps := ["row", "size"]) fun _ _ _ _ _ _ us hl => match us, hl with | [_, _], _ => rfl
  have F6 := fun_mk (st := s_blocks_in) l6 c6 k6
  have b6 := F6.binds (ps := ["row"]) fun _ _ _ _ _ _ us hl => match us, hl with | [_], _ => rfl
  have F7 := fun_mk (st := s_closed_up) l7 c7 k7
  have b7 := F7.binds (ps := ["places", "out"]) fun _ _ _ _ _ _ us hl => match us, hl with | [_, _], _ => rfl
  have F8 := fun_mk (st := s_lengths_from) l8 c8 k8
  have b8 := F8.binds (ps := ["counts"]) fun _ _ _ _ _ _ us hl => match us, hl with | [_], _ => rfl
  have F9 := fun_mk (st := s_pairs) l9 c9 k9
  have b9 := F9.binds (ps := ["row"]) fun _ _ _ _ _ _ us hl => match us, hl with | [_], _ => rfl
  have F10 := fun_mk (st := s_depths) l10 c10 k10
  have b10 := F10.binds (ps := ["row"]) fun _ _ _ _ _ _ us hl => match us, hl with | [_], _ => rfl
  have F11 := fun_mk (st := s_peeled) l11 c11 k11
  have b11 := F11.binds (ps := ["row"]) fun _ _ _ _ _ _ us hl => match us, hl with | [_], _ => rfl
  have F12 := fun_mk (st := s_lengths) l12 c12 k12
  have b12 := F12.binds (ps := ["row"]) fun _ _ _ _ _ _ us hl => match us, hl with | [_], _ => rfl
  have F13 := fun_mk (st := s_one_making) l13 c13 k13
  have b13 := F13.binds (ps := ["one", "other"]) fun _ _ _ _ _ _ us hl => match us, hl with | [_, _], _ => rfl
  have F14 := fun_mk (st := s_runs_in) l14 c14 k14
  have b14 := F14.binds (ps := ["row"]) fun _ _ _ _ _ _ us hl => match us, hl with | [_], _ => rfl
  have F15 := fun_mk (st := s_first_short) l15 c15 k15
  have b15 := F15.binds (ps := ["runs"]) fun _ _ _ _ _ _ us hl => match us, hl with | [_], _ => rfl
  have F16 := fun_mk (st := s_without_wave) l16 c16 k16
  have b16 := F16.binds (ps := ["runs", "at"]) fun _ _ _ _ _ _ us hl => match us, hl with | [_, _], _ => rfl
  have F17 := fun_mk (st := s_waves) l17 c17 k17
  have b17 := F17.binds (ps := ["row"]) fun _ _ _ _ _ _ us hl => match us, hl with | [_], _ => rfl
  have F18 := fun_mk (st := s_carried_by) l18 c18 k18
  have b18 := F18.binds (ps := ["row", "size"]) fun _ _ _ _ _ _ us hl => match us, hl with | [_, _], _ => rfl
  have F19 := fun_mk (st := s_taken_by) l19 c19 k19
  have b19 := F19.binds (ps := ["row", "size"]) fun _ _ _ _ _ _ us hl => match us, hl with | [_, _], _ => rfl
  have F20 := fun_mk (st := s_takings) l20 c20 k20
  have b20 := F20.binds (ps := ["row"]) fun _ _ _ _ _ _ us hl => match us, hl with | [_], _ => rfl
  have F21 := fun_mk (st := s_carried) l21 c21 k21
  have b21 := F21.binds (ps := ["row"]) fun _ _ _ _ _ _ us hl => match us, hl with | [_], _ => rfl
  have F22 := fun_mk (st := s_undone) l22 c22 k22
  have b22 := F22.binds (ps := ["row"]) fun _ _ _ _ _ _ us hl => match us, hl with | [_], _ => rfl
  have F23 := fun_mk (st := s_later) l23 c23 k23
  have b23 := F23.binds (ps := ["row", "steps"]) fun _ _ _ _ _ _ us hl => match us, hl with | [_, _], _ => rfl
  have F24 := fun_mk (st := s_L_cell_at) l24 c24 k24
  have b24 := F24.binds (ps := ["_law_script", "_law_k"]) fun _ _ _ _ _ _ us hl => match us, hl with | [_, _], _ => rfl
  have F25 := fun_mk (st := s_L_state) l25 c25 k25
  have b25 := F25.binds (ps := ["_law_script", "_law_k"]) fun _ _ _ _ _ _ us hl => match us, hl with | [_, _], _ => rfl
  have F26 := fun_mk (st := s_L_take) l26 c26 k26
  have b26 := F26.binds (ps := ["_law_state_here", "_law_many"]) fun _ _ _ _ _ _ us hl => match us, hl with | [_, _], _ => rfl
  have F27 := fun_mk (st := s_L_row) l27 c27 k27
  have b27 := F27.binds (ps := ["_law_state_here", "_law_gaps"]) fun _ _ _ _ _ _ us hl => match us, hl with | [_, _], _ => rfl
  have F28 := fun_mk (st := s_L_far) l28 c28 k28
  have b28 := F28.binds (ps := ["_law_state_here", "_law_row_here"]) fun _ _ _ _ _ _ us hl => match us, hl with | [_, _], _ => rfl
  have F29 := fun_mk (st := s_L_waves_right) l29 c29 k29
  have b29 := F29.binds (ps := ["_law_row_here", "_law_due"]) fun _ _ _ _ _ _ us hl => match us, hl with | [_, _], _ => rfl
  have F30 := fun_mk (st := s_law) l30 c30 k30
  have nb0 : Nb mg := ⟨PySem.W.mg_none_of X G z1, PySem.W.mg_none_of X G z2, PySem.W.mg_none_of X G z3, PySem.W.mg_none_of X G z4, PySem.W.mg_none_of X G z5, PySem.W.mg_none_of X G z6, PySem.W.mg_none_of X G z7, PySem.W.mg_none_of X G z8, PySem.W.mg_none_of X G z9, PySem.W.mg_none_of X G z10, PySem.W.mg_none_of X G z11⟩
  have nb2 : Nb2 mg := ⟨nb0, PySem.W.mg_none_of X G z12, PySem.W.mg_none_of X G z13⟩
  have nb3 : Nb3 mg := ⟨nb2, PySem.W.mg_none_of X G z14, PySem.W.mg_none_of X G z15⟩
  have nbE : NbE mg := ⟨nb3, PySem.W.mg_none_of X G z16⟩
  have nbX : NbX mg := ⟨nbE, PySem.W.mg_none_of X G z17, PySem.W.mg_none_of X G z18⟩
  have c_GREATEST_SIZE : ∃ u, mg "GREATEST_SIZE" = some u ∧ RelV (.int 12) u := ⟨u1, PySem.W.mg_of X G n1, e1⟩
  have c_MOST_STEPS : ∃ u, mg "MOST_STEPS" = some u ∧ RelV (.int 60) u := ⟨u2, PySem.W.mg_of X G n2, e2⟩
  refine ⟨PySem.W.fnOf "law" "law" (defArgs s_law) (defBody s_law) (defScope s_law) .none kV30 dc30 pm30 an30 cd30 ct30, fun s v => .of_eq rfl, fun base _ _ => ?_⟩
  have h_is_number : Has l.prog w K mg base 1 "is_number" ["thing", "least", "greatest"] spNum := ⟨f1, _, ok_is_number F1 nb0 , PySem.W.mg_of X G a1, k1, b1⟩
  have h_need_number : Has l.prog w K mg base 2 "need_number" ["thing", "least", "greatest"] spNeed := ⟨f2, _, ok_need_number F2 nb2 h_is_number, PySem.W.mg_of X G a2, k2, b2⟩
  have h_carry : Has l.prog w K mg base 1 "carry" ["row", "size"] spCarry := ⟨f3, _, ok_carry F3 nb2 , PySem.W.mg_of X G a3, k3, b3⟩
  have h_mirrored : Has l.prog w K mg base 1 "mirrored" ["row"] spMir := ⟨f4, _, ok_mirrored F4 nb2 , PySem.W.mg_of X G a4, k4, b4⟩
  have h_carry_back : Has l.prog w K mg base 2 "carry_back" ["row", "size"] spBack := ⟨f5, _, ok_carry_back F5 nb2 h_carry h_mirrored, PySem.W.mg_of X G a5, k5, b5⟩
  have h_blocks_in : Has l.prog w K mg base 1 "blocks_in" ["row"] spBin := ⟨f6, _, ok_blocks_in F6 nb2 , PySem.W.mg_of X G a6, k6, b6⟩
  have h_closed_up : Has l.prog w K mg base 1 "closed_up" ["places", "out"] spClosed := ⟨f7, _, ok_closed_up F7 nb0 , PySem.W.mg_of X G a7, k7, b7⟩
  have h_lengths_from : Has l.prog w K mg base 1 "lengths_from" ["counts"] spLf := ⟨f8, _, ok_lengths_from F8 nb2 , PySem.W.mg_of X G a8, k8, b8⟩
  have h_pairs : Has l.prog w K mg base 1 "pairs" ["row"] spPairs := ⟨f9, _, ok_pairs F9 nb3 , PySem.W.mg_of X G a9, k9, b9⟩
  have h_depths : Has l.prog w K mg base 2 "depths" ["row"] spDp := ⟨f10, _, ok_depths F10 nb3 h_pairs, PySem.W.mg_of X G a10, k10, b10⟩
  have h_peeled : Has l.prog w K mg base 2 "peeled" ["row"] spPeel := ⟨f11, _, ok_peeled F11 nb0 h_closed_up, PySem.W.mg_of X G a11, k11, b11⟩
  have h_lengths : Has l.prog w K mg base 3 "lengths" ["row"] spLen := ⟨f12, _, ok_lengths F12 nb2 h_peeled h_lengths_from, PySem.W.mg_of X G a12, k12, b12⟩
  have h_one_making : Has l.prog w K mg base 4 "one_making" ["one", "other"] spOm := ⟨f13, _, ok_one_making F13 nb3 h_lengths, PySem.W.mg_of X G a13, k13, b13⟩
  have h_runs_in : Has l.prog w K mg base 2 "runs_in" ["row"] spRuns := ⟨f14, _, ok_runs_in F14 nbE h_blocks_in, PySem.W.mg_of X G a14, k14, b14⟩
  have h_first_short : Has l.prog w K mg base 1 "first_short" ["runs"] spFs := ⟨f15, _, ok_first_short F15 nbE , PySem.W.mg_of X G a15, k15, b15⟩
  have h_without_wave : Has l.prog w K mg base 1 "without_wave" ["runs", "at"] spWo := ⟨f16, _, ok_without_wave F16 nbE , PySem.W.mg_of X G a16, k16, b16⟩
  have h_waves : Has l.prog w K mg base 3 "waves" ["row"] spWaves := ⟨f17, _, ok_waves F17 nbE h_runs_in h_first_short h_without_wave, PySem.W.mg_of X G a17, k17, b17⟩
  have h_carried_by : Has l.prog w K mg base 3 "carried_by" ["row", "size"] spCb := ⟨f18, _, ok_carried_by F18 nb2 h_need_number h_carry c_GREATEST_SIZE, PySem.W.mg_of X G a18, k18, b18⟩
  have h_taken_by : Has l.prog w K mg base 3 "taken_by" ["row", "size"] spTb := ⟨f19, _, ok_taken_by F19 nb2 h_need_number h_carry c_GREATEST_SIZE, PySem.W.mg_of X G a19, k19, b19⟩
  have h_takings : Has l.prog w K mg base 2 "takings" ["row"] spTks := ⟨f20, _, ok_takings F20 nb3 h_carry, PySem.W.mg_of X G a20, k20, b20⟩
  have h_carried : Has l.prog w K mg base 2 "carried" ["row"] spCar := ⟨f21, _, ok_carried F21 nb2 h_carry, PySem.W.mg_of X G a21, k21, b21⟩
  have h_undone : Has l.prog w K mg base 3 "undone" ["row"] spUnd := ⟨f22, _, ok_undone F22 nb2 h_carry_back, PySem.W.mg_of X G a22, k22, b22⟩
  have h_later : Has l.prog w K mg base 4 "later" ["row", "steps"] spLater := ⟨f23, _, ok_later F23 nb2 h_need_number h_carried h_undone c_MOST_STEPS, PySem.W.mg_of X G a23, k23, b23⟩
  have h_L_cell_at : Has l.prog w K mg base 1 "_law_cell_at" ["_law_script", "_law_k"] (spCell K) := ⟨f24, _, ok_L_cell_at F24 nb0 , PySem.W.mg_of X G a24, k24, b24⟩
  have h_L_state : Has l.prog w K mg base 2 "_law_state" ["_law_script", "_law_k"] (spState K) := ⟨f25, _, ok_L_state F25 nb0 h_L_cell_at, PySem.W.mg_of X G a25, k25, b25⟩
  have h_L_take : Has l.prog w K mg base 1 "_law_take" ["_law_state_here", "_law_many"] (spTake K) := ⟨f26, _, ok_L_take F26 nb0 , PySem.W.mg_of X G a26, k26, b26⟩
  have h_L_row : Has l.prog w K mg base 2 "_law_row" ["_law_state_here", "_law_gaps"] spRow := ⟨f27, _, ok_L_row F27 nb0 h_L_take, PySem.W.mg_of X G a27, k27, b27⟩
  have h_L_far : Has l.prog w K mg base 2 "_law_far" ["_law_state_here", "_law_row_here"] spFar := ⟨f28, _, ok_L_far F28 nb0 h_L_take, PySem.W.mg_of X G a28, k28, b28⟩
  have h_L_waves_right : Has l.prog w K mg base 4 "_law_waves_right" ["_law_row_here", "_law_due"] spWr := ⟨f29, _, ok_L_waves_right F29 nbX h_waves, PySem.W.mg_of X G a29, k29, b29⟩
  exact ok_law F30 nbX h_L_state h_L_take h_L_row h_L_far h_lengths h_later h_one_making h_carried_by h_taken_by h_takings h_peeled h_depths h_L_waves_right
theorem walk {l : PySem.W.OpenLaw} {q : Program} {loose : List Str} {XP : (Str → Option Value) → Heap → Prop} {YP : World → Heap → Prop} {d : DefRec} {K : Params → PySem.W.Frag} (hn : l.most = some 63) (hdf : d.params.defaults = [])
    (hY : ∀ (w : World) (h : Heap), YP w h → (K w.params).In h)
    (F : ∀ (w : World) (mg : Str → Option Value) (fa : Addr) (h : Heap), (K w.params).In h → h.Ns mainGlobals mg → mg d.name = some (.ref fa) →
      ∃ fd : FuncData, (∀ (s : Shared) (u : Value), BindsTo s fd ⟨[u], []⟩ [("_law_script", u)]) ∧ ∀ base : Heap, (K w.params).In base → base.Ns mainGlobals mg → FnOk l.prog w (K w.params) mg base CX0 5 fa fd ["_law_script"] (spLaw (K w.params))) :
    PySem.W.WalkO q loose XP YP l.row.toRowW d [] (fun f vs => PySem.call f vs) :=
  L2.walk_of (n := 63) (k := 5) (x := "_law_script") (CX := fun _ => CX0) (sp := fun w => spLaw (K w.params)) hn (by decide) hdf ⟨rfl, by decide, by decide⟩ hY F (fun _ _ a ns hl _ hS => ⟨a, ns, rfl, hS, hl, fun _ => rfl⟩) fun _ _ _ _ _ z => z
end K34
open PySem PySem.W PyProof.Rows
set_option maxRecDepth 100000 in
set_option maxHeartbeats 0 in
theorem PySem.Challenge.cw_boxballs_k34_whole_lengths_holds : PySem.Challenge.rw_boxballs_k34_whole_lengths.Holds := by
  w_on; o_law; k_head; (case hw => w_witness2)
  k_fill
  refine K34.walk (l := PySem.Challenge.rw_boxballs_k34_whole_lengths) rfl rfl (fun w h Y => PySem.W.kIn_of Y) ?F
  case F =>
    intro w mg fa h KX G hmg
    refine' K34.all_mk KX G hmg ?a1 ?l1 ?c1 ?k1 ?a2 ?l2 ?c2 ?k2 ?a3 ?l3 ?c3 ?k3 ?a4 ?l4 ?c4 ?k4 ?a5 ?l5 ?c5 ?k5 ?a6 ?l6 ?c6 ?k6 ?a7 ?l7 ?c7 ?k7 ?a8 ?l8 ?c8 ?k8 ?a9 ?l9 ?c9 ?k9 ?a10 ?l10 ?c10 ?k10 ?a11 ?l11 ?c11 ?k11 ?a12 ?l12 ?c12 ?k12 ?a13 ?l13 ?c13 ?k13 ?a14 ?l14 ?c14 ?k14 ?a15 ?l15 ?c15 ?k15 ?a16 ?l16 ?c16 ?k16 ?a17 ?l17 ?c17 ?k17 ?a18 ?l18 ?c18 ?k18 ?a19 ?l19 ?c19 ?k19 ?a20 ?l20 ?c20 ?k20 ?a21 ?l21 ?c21 ?k21 ?a22 ?l22 ?c22 ?k22 ?a23 ?l23 ?c23 ?k23 ?a24 ?l24 ?c24 ?k24 ?a25 ?l25 ?c25 ?k25 ?a26 ?l26 ?c26 ?k26 ?a27 ?l27 ?c27 ?k27 ?a28 ?l28 ?c28 ?k28 ?a29 ?l29 ?c29 ?k29 ?a30 ?l30 ?c30 ?k30 ?n1 ?e1 ?n2 ?e2 ?z1 ?z2 ?z3 ?z4 ?z5 ?z6 ?z7 ?z8 ?z9 ?z10 ?z11 ?z12 ?z13 ?z14 ?z15 ?z16 ?z17 ?z18
    (case a1 => k_is); (case l1 => k_is); (case c1 => k_is); (case k1 => k_is)
    (case a2 => k_is); (case l2 => k_is); (case c2 => k_is); (case k2 => k_is)
    (case a3 => k_is); (case l3 => k_is); (case c3 => k_is); (case k3 => k_is)
    (case a4 => k_is); (case l4 => k_is); (case c4 => k_is); (case k4 => k_is)
    (case a5 => k_is); (case l5 => k_is); (case c5 => k_is); (case k5 => k_is)
    (case a6 => k_is); (case l6 => k_is); (case c6 => k_is); (case k6 => k_is)
    (case a7 => k_is); (case l7 => k_is); (case c7 => k_is); (case k7 => k_is)
    (case a8 => k_is); (case l8 => k_is); (case c8 => k_is); (case k8 => k_is)
    (case a9 => k_is); (case l9 => k_is); (case c9 => k_is); (case k9 => k_is)
    (case a10 => k_is); (case l10 => k_is); (case c10 => k_is); (case k10 => k_is)
    (case a11 => k_is); (case l11 => k_is); (case c11 => k_is); (case k11 => k_is)
    (case a12 => k_is); (case l12 => k_is); (case c12 => k_is); (case k12 => k_is)
    (case a13 => k_is); (case l13 => k_is); (case c13 => k_is); (case k13 => k_is)
    (case a14 => k_is); (case l14 => k_is); (case c14 => k_is); (case k14 => k_is)
    (case a15 => k_is); (case l15 => k_is); (case c15 => k_is); (case k15 => k_is)
    (case a16 => k_is); (case l16 => k_is); (case c16 => k_is); (case k16 => k_is)
    (case a17 => k_is); (case l17 => k_is); (case c17 => k_is); (case k17 => k_is)
    (case a18 => k_is); (case l18 => k_is); (case c18 => k_is); (case k18 => k_is)
    (case a19 => k_is); (case l19 => k_is); (case c19 => k_is); (case k19 => k_is)
    (case a20 => k_is); (case l20 => k_is); (case c20 => k_is); (case k20 => k_is)
    (case a21 => k_is); (case l21 => k_is); (case c21 => k_is); (case k21 => k_is)
    (case a22 => k_is); (case l22 => k_is); (case c22 => k_is); (case k22 => k_is)
    (case a23 => k_is); (case l23 => k_is); (case c23 => k_is); (case k23 => k_is)
    (case a24 => k_is); (case l24 => k_is); (case c24 => k_is); (case k24 => k_is)
    (case a25 => k_is); (case l25 => k_is); (case c25 => k_is); (case k25 => k_is)
    (case a26 => k_is); (case l26 => k_is); (case c26 => k_is); (case k26 => k_is)
    (case a27 => k_is); (case l27 => k_is); (case c27 => k_is); (case k27 => k_is)
    (case a28 => k_is); (case l28 => k_is); (case c28 => k_is); (case k28 => k_is)
    (case a29 => k_is); (case l29 => k_is); (case c29 => k_is); (case k29 => k_is)
    (case a30 => k_is); (case l30 => k_is); (case c30 => k_is); (case k30 => k_is)
    (case n1 => k_is); (case e1 => exact ⟨_, rfl⟩)
    (case n2 => k_is); (case e2 => exact ⟨_, rfl⟩)
    (case z1 => k_is)
    (case z2 => k_is)
    (case z3 => k_is)
    (case z4 => k_is)
    (case z5 => k_is)
    (case z6 => k_is)
    (case z7 => k_is)
    (case z8 => k_is)
    (case z9 => k_is)
    (case z10 => k_is)
    (case z11 => k_is)
    (case z12 => k_is)
    (case z13 => k_is)
    (case z14 => k_is)
    (case z15 => k_is)
    (case z16 => k_is)
    (case z17 => k_is)
    (case z18 => k_is)
