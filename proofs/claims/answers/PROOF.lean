import PyProof.Rows.All
import Wide.All
import OpenK.AllK
import Wide.FinOn
import PyProof.EqAt
import PyProof.EqKinds
import PyProof.TupleCall
import KE.BitLaws
import Open.SpecLaws
import KE.OsHead
import KE.OsGo
import PyRc38
import PyFlatLaws
import KE.KBits
import KE.IntBitsLaws
import PySem.Challenge.RW_oldmachine_s01_answers
section
set_option Elab.async false
set_option linter.all false
set_option maxRecDepth 100000
/-! THE HAND LAYER, for ints, bools, texts, own classes, lists, tuples, dicts, comprehensions, walks over dicts, enumerate, zip, reversed, texts, calls, loops. Paste it whole ahead of your own text; what your proof does not reach may be deleted. -/
namespace L2
open PySem PySem.Spec PyProof.Rows

/-- a key: an int or a str -/
abbrev Key := Sum Int Str
def keyIs : Key → Value → Bool
  | .inl k, v => Value.isInt k v
  | .inr x, v => Value.isStrOf x v
def keyH (w : World) : Key → Int
  | .inl k => hashInt k
  | .inr x => hashStr w x
theorem keyIs_shape : ∀ {k : Key} {v : Value}, keyIs k v = true → (∃ i t, k = Sum.inl i ∧ v = Value.int i t) ∨ (∃ x t, k = Sum.inr x ∧ v = Value.str x t)
  | .inl i, v, h => by
    obtain ⟨t, e⟩ := Value.isInt_shape (k := i) (v := v) h
    exact .inl ⟨i, t, rfl, e⟩
  | .inr x, v, h => by
    obtain ⟨t, e⟩ := Value.isStrOf_shape (x := x) (v := v) h
    exact .inr ⟨x, t, rfl, e⟩
theorem keyIs_int (i : Int) (t : Tok) : keyIs (.inl i) (.int i t) = true := by simp [keyIs, Value.isInt]
theorem keyIs_str (x : Str) (t : Tok) : keyIs (.inr x) (.str x t) = true := by simp [keyIs, Value.isStrOf]
theorem key_ll (a b : Int) : decide ((Sum.inl a : Key) = Sum.inl b) = (a == b) := by
  by_cases e : a = b
  · subst e; simp
  · have h : ¬ (Sum.inl a : Key) = Sum.inl b := fun q => e (Sum.inl.inj q)
    rw [decide_eq_false h]
    exact (beq_eq_false_iff_ne.mpr e).symm
theorem key_rr (a b : Str) : decide ((Sum.inr a : Key) = Sum.inr b) = decide (a = b) := by
  by_cases e : a = b
  · subst e; simp
  · have h : ¬ (Sum.inr a : Key) = Sum.inr b := fun q => e (Sum.inr.inj q)
    rw [decide_eq_false h, decide_eq_false e]
theorem key_lr (a : Int) (b : Str) : decide ((Sum.inl a : Key) = Sum.inr b) = false := decide_eq_false (fun q => nomatch q)
theorem key_rl (a : Str) (b : Int) : decide ((Sum.inr a : Key) = Sum.inl b) = false := decide_eq_false (fun q => nomatch q)

def mixKind (prog : Program) (w : World) : PySem.KeyKind prog w Key where
  is := keyIs
  hash := keyH w
  inj := fun v a b ha hb => by
    rcases keyIs_shape ha with ⟨i, t, rfl, rfl⟩ | ⟨x, t, rfl, rfl⟩
    · rcases keyIs_shape hb with ⟨j, u, rfl, e⟩ | ⟨y, u, rfl, e⟩
      · injection e with e1 _; rw [e1]
      · exact nomatch e
    · rcases keyIs_shape hb with ⟨j, u, rfl, e⟩ | ⟨y, u, rfl, e⟩
      · exact nomatch e
      · injection e with e1 _; rw [e1]
  byValue := fun k v h => by
    rcases keyIs_shape h with ⟨i, t, rfl, rfl⟩ | ⟨x, t, rfl, rfl⟩ <;> rfl
  pyHash := fun hv h => by
    rcases keyIs_shape hv with ⟨i, t, rfl, rfl⟩ | ⟨x, t, rfl, rfl⟩
    · exact wpAny_pyHash_int h
    · exact wpAny_pyHash_str h
  eqBool := fun hu hv h => by
    rcases keyIs_shape hu with ⟨i, t, rfl, rfl⟩ | ⟨x, t, rfl, rfl⟩
    · rcases keyIs_shape hv with ⟨j, u, rfl, rfl⟩ | ⟨y, u, rfl, rfl⟩
      · rw [key_ll] at h; exact wpAny_eqBool_int h
      · rw [key_lr] at h; exact SeqAt.EqAt.int_str i t y u _ _ _ _ h
    · rcases keyIs_shape hv with ⟨j, u, rfl, rfl⟩ | ⟨y, u, rfl, rfl⟩
      · rw [key_rl] at h; exact SeqAt.EqAt.str_int x t j u _ _ _ _ h
      · rw [key_rr] at h; exact wpAny_eqBool_str h
  «strs» := fun k x t v h => by
    rcases keyIs_shape h with ⟨i, u, rfl, e⟩ | ⟨y, u, rfl, e⟩
    · exact nomatch e
    · injection e with e1 _
      subst e1
      cases v <;> rfl

theorem mixKind_int (prog : Program) (w : World) (i : Int) (t : Tok) : (mixKind prog w).is (.inl i) (.int i t) = true := keyIs_int i t
theorem mixKind_str (prog : Program) (w : World) (x : Str) (t : Tok) : (mixKind prog w).is (.inr x) (.str x t) = true := keyIs_str x t
end L2

namespace L2
open PySem PySem.Spec PyProof.Rows

/-- a value, without the heap -/
inductive V where
  | non | bl (b : Bool) | int (i : Int) | str (x : Str) | byt (b : Array UInt8) | flt (b : UInt64) | ref (a : Addr) | ty (n : String)
  deriving DecidableEq

def RelV : V → Value → Prop
  | .non, u => u = Value.none
  | .bl b, u => u = Value.bool b
  | .int i, u => ∃ t, u = Value.int i t
  | .str x, u => ∃ t, u = Value.str x t
  | .byt b, u => ∃ t, u = Value.bytes b t
  | .flt b, u => ∃ t, u = Value.float b t
  | .ref a, u => u = Value.ref a
  | .ty n, u => u = Value.type n

abbrev Vals : List V → List Value → Prop := Paired RelV
theorem Vals.length {xs : List V} {us : List Value} (r : Vals xs us) : xs.length = us.length := Paired.length r
theorem Vals.get : ∀ {xs : List V} {us : List Value} {i : Nat} {x : V}, Vals xs us → xs[i]? = some x → ∃ u, us[i]? = some u ∧ RelV x u
  | _, _, _, _, .nil, e => by simp at e
  | _, _, 0, _, .cons r _, e => by simp at e; subst e; exact ⟨_, rfl, r⟩
  | _, _, i + 1, x, .cons _ t, e => by
    obtain ⟨u, h1, h2⟩ := Vals.get (i := i) (x := x) t (by simpa using e)
    exact ⟨u, by simpa using h1, h2⟩
theorem Vals.set {x : V} {u : Value} (r : RelV x u) : ∀ {xs : List V} {us : List Value} (i : Nat), Vals xs us → Vals (xs.set i x) (us.set i u)
  | _, _, _, .nil => .nil
  | _, _, 0, .cons _ t => .cons r t
  | _, _, i + 1, .cons q t => .cons q (Vals.set r i t)
theorem Vals.append : ∀ {xs ys : List V} {us ws : List Value}, Vals xs us → Vals ys ws → Vals (xs ++ ys) (us ++ ws)
  | _, _, _, _, .nil, s => s
  | _, _, _, _, .cons r t, s => .cons r (Vals.append t s)
theorem Vals.take : ∀ {xs : List V} {us : List Value} (n : Nat), Vals xs us → Vals (xs.take n) (us.take n)
  | _, _, 0, _ => .nil
  | _, _, _ + 1, .nil => .nil
  | _, _, n + 1, .cons r t => .cons r (Vals.take n t)
theorem Vals.drop : ∀ {xs : List V} {us : List Value} (n : Nat), Vals xs us → Vals (xs.drop n) (us.drop n)
  | _, _, 0, r => r
  | _, _, _ + 1, .nil => .nil
  | _, _, n + 1, .cons _ t => Vals.drop n t
theorem Vals.none_of : ∀ {xs : List V} {us : List Value} {i : Nat}, Vals xs us → xs[i]? = none → us[i]? = none := fun {xs us i} r e => by
  have h1 := r.length
  have h2 : xs.length ≤ i := List.getElem?_eq_none_iff.mp e
  exact List.getElem?_eq_none_iff.mpr (by omega)

def RelO : Option V → Option Value → Prop
  | some v, some u => RelV v u
  | none, none => True
  | _, _ => False
def KV {κ : Type} : List (κ × V) → List (κ × Value) → Prop := Paired fun (p : κ × V) (q : κ × Value) => p.1 = q.1 ∧ RelV p.2 q.2

/-- a key of a dict (00_mix): an int or a text -/
def kV : Key → V
  | .inl i => .int i
  | .inr x => .str x

/-- what stands at a tracked address -/
inductive HO where
  /-- a list -/
  | lst (xs : List V)
  /-- a tuple (never changes) -/
  | tup (xs : List V)
  /-- a dict whose keys are ints and texts; one whose keys are tuples of ints and texts (the empty one is both) -/
  | dK (kvs : List (Key × V)) | dT (kvs : List (List Key × V))
  /-- a set of ints: its members, its size -/
  | set (S : Int → Bool) (n : Nat)
  /-- an instance of the class at C, its dict at dx, its attributes -/
  | ins (C dx : Addr) (fs : List (Str × V))
  /-- the dict of the instance at x -/
  | own (x : Addr)
  /-- the dict of an exception -/
  | xd (fs : List (Str × V))
  /-- a bound method, f of x -/
  | met (f x : Addr)
  /-- a range object lo, lo + 1, .. below hi -/
  | rng (lo hi : Int)
  /-- a thing that is known to the object (the script; a dict while a loop walks it): read, never written while it is so -/
  | frz (o : Obj) (u : HO)
  /-- a code object's table -/
  | tbl (ps : Array Value)
  /-- any other thing, by what is true of its one object (a def of one's own: SetO a S n := HO.ext fun h => ..) -/
  | ext (φ : Heap → Prop)

abbrev Hp := Addr → Option HO
def upd (H : Hp) (a : Addr) (o : HO) : Hp := fun b => if b = a then some o else H b
theorem upd_same {H : Hp} {a : Addr} {o : HO} : upd H a o a = some o := by unfold upd; rw [if_pos rfl]
theorem upd_ne {H : Hp} {a b : Addr} {o : HO} (h : b ≠ a) : upd H a o b = H b := by unfold upd; rw [if_neg h]
/-- two objects of different content stand apart -/
theorem ne_of {H : Hp} {a b : Addr} {o u : HO} (h : H a = some o) (h' : H b = some u) (d : o ≠ u) : a ≠ b := by
  intro e; subst e; rw [h] at h'; exact d (Option.some.inj h')
theorem ne_of_none {H : Hp} {a b : Addr} {o : HO} (h : H a = some o) (h' : H b = none) : a ≠ b := by
  intro e; subst e; rw [h] at h'; cases h'

section
variable (P : Program) (w : World)
def ObjOk (H : Hp) (h : Heap) (a : Addr) : HO → Prop
  | .lst xs => xs.length ≤ sizeLine ∧ ∃ (its : List Value) (n : Nat), Vals xs its ∧ h.get? a = some { cls := .type "list", data := .seq its.toArray n }
  | .tup xs => xs.length ≤ sizeLine ∧ ∃ its : List Value, Vals xs its ∧ IsTup h a its.toArray
  | .dK kvs => kvs.length ≤ sizeLine ∧ (a == sysModules) = false ∧ ∃ vs, KV kvs vs ∧ h.DictOf (mixKind P w) a vs
  | .dT kvs => kvs.length ≤ sizeLine ∧ (a == sysModules) = false ∧ ∃ xs : List (List Key × Addr × Value),
      Paired (fun (p : List Key × V) (q : List Key × Addr × Value) => p.1 = q.1 ∧ H q.2.1 = some (.tup (p.1.map kV)) ∧ RelV p.2 q.2.2) kvs xs ∧
      ∃ o es ep, h.get? a = some o ∧ o.ExactDict ∧ o.data = .dict es ep ∧ es.toList = xs.map (entryOfKey (tupleKind (mixKind P w))) ∧ (xs.map (·.1)).Nodup
  | .set S n => h.SetOf (intKind P w) a S n
  | .ins C dx fs => H dx = some (.own a) ∧ fs.length ≤ 1000 ∧ dx ≠ a ∧ h.get? a = some (PySem.W.instObj C dx) ∧
      ∃ mA, h.Ns1 dx mA ∧ (∀ f, RelO (fs.lookup f) (mA f)) ∧ PySem.Within mA (fs.map (·.1))
  | .own _ => ∃ o, h.get? a = some o
  | .xd fs => ∃ mA, h.Ns1 a mA ∧ ∀ f, RelO (fs.lookup f) (mA f)
  | .rng lo hi => ∃ t u v, h.get? a = some { cls := .type "range", data := .fields #[.int lo t, .int hi u, .int 1 v] }
  | .frz o u => h.get? a = some o ∧ ObjOk H h a u
  | .tbl ps => h.get? a = some { cls := .none, data := .fields ps }
  | .met f x => h.get? a = some (PySem.W.methodObj (.ref f) (.ref x))
  | .ext φ => φ h ∧ (∃ o, h.get? a = some o) ∧ ∀ h1 h2 : Heap, φ h1 → (∀ o, h1.get? a = some o → h2.get? a = some o) → φ h2
/-- the abstract heap is held -/
def HOk (H : Hp) (h : Heap) : Prop := ∀ a o, H a = some o → ObjOk P w H h a o
end

section
variable {P : Program} {w : World} {H H' : Hp} {h h' : Heap} {a : Addr} {o : HO}
theorem ObjOk.lt (x : ObjOk P w H h a o) : a < h.objs.size := by
  cases o with
  | lst xs => obtain ⟨_, _, _, _, e⟩ := x; exact Heap.lt_size e
  | tup xs => obtain ⟨_, _, _, p⟩ := x; exact p.lt
  | dK kvs => obtain ⟨_, _, _, _, o, _, _, e, _⟩ := x; exact Heap.lt_size e
  | dT kvs => obtain ⟨_, _, _, _, o, _, _, e, _⟩ := x; exact Heap.lt_size e
  | set S n => obtain ⟨o, _, _, _, e, _⟩ := x; exact Heap.lt_size e
  | ins C dx fs => obtain ⟨_, _, _, e, _⟩ := x; exact Heap.lt_size e
  | own y => obtain ⟨_, e⟩ := x; exact Heap.lt_size e
  | xd fs => obtain ⟨_, ⟨_, _, _, e, _⟩, _⟩ := x; exact Heap.lt_size e
  | rng lo hi => obtain ⟨_, _, _, e⟩ := x; exact Heap.lt_size e
  | frz ob u => obtain ⟨e, _⟩ := x; exact Heap.lt_size e
  | tbl ps => exact Heap.lt_size (show h.get? a = some _ from x)
  | met f y => exact Heap.lt_size (show h.get? a = some _ from x)
  | ext φ => obtain ⟨_, ⟨_, e⟩, _⟩ := x; exact Heap.lt_size e
theorem Paired.mapP {α β : Type} {F G : α → β → Prop} : ∀ {l₁ : List α} {l₂ : List β}, Paired F l₁ l₂ → (∀ a b, F a b → G a b) → Paired G l₁ l₂
  | _, _, .nil, _ => .nil
  | _, _, .cons r t, f => .cons (f _ _ r) (Paired.mapP t f)
/-- what an object's description leans on: its own object, its own dict, the tuples -/
theorem ObjOk.stay (x : ObjOk P w H h a o) (k : ∀ b u, (b = a ∨ H b = some (.own a)) → h.get? b = some u → h'.get? b = some u)
    (ho : ∀ b, H b = some (.own a) → H' b = some (.own a)) (ht : ∀ b xs, H b = some (.tup xs) → H' b = some (.tup xs)) : ObjOk P w H' h' a o := by
  induction o with
  | lst xs => obtain ⟨z, its, n, r, e⟩ := x; exact ⟨z, its, n, r, k _ _ (.inl rfl) e⟩
  | tup xs => obtain ⟨z, its, r, ob, e, c⟩ := x; exact ⟨z, its, r, ob, k _ _ (.inl rfl) e, c⟩
  | dK kvs => obtain ⟨z, y, vs, r, ob, es, ep, e, c⟩ := x; exact ⟨z, y, vs, r, ob, es, ep, k _ _ (.inl rfl) e, c⟩
  | dT kvs =>
    obtain ⟨z, y, xs, r, ob, es, ep, e, c⟩ := x
    exact ⟨z, y, xs, Paired.mapP r fun p q z => ⟨z.1, ht _ _ z.2.1, z.2.2⟩, ob, es, ep, k _ _ (.inl rfl) e, c⟩
  | set S n => obtain ⟨ob, es, ep, t, e, c⟩ := x; exact ⟨ob, es, ep, t, k _ _ (.inl rfl) e, c⟩
  | ins C dx fs =>
    obtain ⟨d, z, ne, e, mA, ⟨od, es, ep, e2, c⟩, r⟩ := x
    exact ⟨ho _ d, z, ne, k _ _ (.inl rfl) e, mA, ⟨od, es, ep, k _ _ (.inr d) e2, c⟩, r⟩
  | own y => obtain ⟨ob, e⟩ := x; exact ⟨ob, k _ _ (.inl rfl) e⟩
  | xd fs => obtain ⟨mA, ⟨od, es, ep, e, c⟩, r⟩ := x; exact ⟨mA, ⟨od, es, ep, k _ _ (.inl rfl) e, c⟩, r⟩
  | rng lo hi => obtain ⟨t, u, v, e⟩ := x; exact ⟨t, u, v, k _ _ (.inl rfl) e⟩
  | frz ob u ih => obtain ⟨e, q⟩ := x; exact ⟨k _ _ (.inl rfl) e, ih q⟩
  | tbl ps =>
    have e : h.get? a = some { cls := .none, data := .fields ps } := x
    show h'.get? a = some { cls := .none, data := .fields ps }
    exact k a _ (.inl rfl) e
  | met f y =>
    have e : h.get? a = some (PySem.W.methodObj (.ref f) (.ref y)) := x
    show h'.get? a = some (PySem.W.methodObj (.ref f) (.ref y))
    exact k a _ (.inl rfl) e
  | ext φ => obtain ⟨p, ⟨o, e⟩, st⟩ := x; exact ⟨st _ _ p fun o q => k _ _ (.inl rfl) q, ⟨o, k _ _ (.inl rfl) e⟩, st⟩
theorem HOk.lt (x : HOk P w H h) (e : H a = some o) : a < h.objs.size := (x a o e).lt
theorem HOk.fresh (x : HOk P w H h) (e : h.objs.size ≤ a) : H a = none := by
  cases q : H a with
  | none => rfl
  | some u => exact absurd (Nat.lt_of_lt_of_le (x.lt q) e) (Nat.lt_irrefl _)
/-- every object of the heap is kept -/
theorem HOk.kept (x : HOk P w H h) (k : ∀ b u, h.get? b = some u → h'.get? b = some u) : HOk P w H h' := fun a o e =>
  (x a o e).stay (fun b u _ q => k b u q) (fun _ q => q) fun _ _ q => q
/-- a new object is laid and tracked -/
theorem HOk.laid (x : HOk P w H h) (k : ∀ b u, h.get? b = some u → h'.get? b = some u) (hp : h.objs.size ≤ a) (new : ObjOk P w (upd H a o) h' a o) : HOk P w (upd H a o) h' := fun b u e => by
  have hn := x.fresh hp
  by_cases hb : b = a
  · subst hb; rw [upd_same] at e; cases e; exact new
  · rw [upd_ne hb] at e
    exact (x b u e).stay (fun c v _ q => k c v q) (fun c q => by rw [upd_ne (ne_of_none q hn)]; exact q) fun c xs q => by rw [upd_ne (ne_of_none q hn)]; exact q
end

/-- what may be read as u: it is u, or a known u -/
def Rd (H : Hp) (a : Addr) (u : HO) : Prop := H a = some u ∨ ∃ o, H a = some (.frz o u)
theorem Rd.of {H : Hp} {a : Addr} {u : HO} (h : H a = some u) : Rd H a u := .inl h
theorem Rd.ok {P : Program} {w : World} {H : Hp} {h : Heap} {a : Addr} {u : HO} (r : Rd H a u) (x : HOk P w H h) : ObjOk P w H h a u := by
  rcases r with r | ⟨o, r⟩
  · exact x a u r
  · obtain ⟨_, q⟩ := x a _ r
    exact q
/-- what may be written -/
def Mut : Option HO → Prop
  | some (.lst _) => True
  | some (.dK _) => True
  | some (.dT _) => True
  | some (.set _ _) => True
  | some (.ins _ _ _) => True
  | some (.ext _) => True
  | _ => False
section
variable {P : Program} {w : World} {H : Hp} {h h' : Heap} {x e : Addr} {o' : HO}
/-- the object at e is changed: x itself, or the dict of the instance x -/
theorem HOk.write (ok : HOk P w H h) (mu : Mut (H x)) (he : e = x ∨ H e = some (.own x)) (k : ∀ b u, b ≠ e → h.get? b = some u → h'.get? b = some u) (heo : ∃ u, h'.get? e = some u)
    (new : ObjOk P w (upd H x o') h' x o') : HOk P w (upd H x o') h' := fun b u q => by
  have nown : ∀ c y, H c = some (.own y) → c ≠ x := fun c y r z => by subst z; rw [r] at mu; exact mu
  have ntup : ∀ c xs, H c = some (.tup xs) → c ≠ x := fun c xs r z => by subst z; rw [r] at mu; exact mu
  by_cases hb : b = x
  · subst hb; rw [upd_same] at q; cases q; exact new
  · rw [upd_ne hb] at q
    by_cases hbe : b = e
    · have q' : H b = some (.own x) := by
        rcases he with z | z
        · exact absurd (hbe.trans z) hb
        · rw [hbe]; exact z
      rw [q] at q'; cases q'
      obtain ⟨v, hv⟩ := heo
      exact ⟨v, by rw [hbe]; exact hv⟩
    · refine (ok b u q).stay (fun c v hc r => k c v ?_ r) (fun c r => by rw [upd_ne (nown c b r)]; exact r) fun c xs r => by rw [upd_ne (ntup c xs r)]; exact r
      rcases hc with rfl | hc
      · exact hbe
      · rintro rfl
        rcases he with z | z
        · exact nown c b hc z
        · rw [hc] at z; cases z; exact hb rfl
end

/-! ### kept unless tracked; of the frames at fs (the callers') the slots may change (an exception that passes writes there); of the records at ex (iterators) nothing is said -/
structure Un (fs ex : List Addr) (H H' : Hp) (h h' : Heap) : Prop where
  keep : ∀ b o, h.get? b = some o → H b = none → b ∉ fs → b ∉ ex → h'.get? b = some o
  slot : ∀ b o, h.get? b = some o → H b = none → b ∈ fs → b ∉ ex → ∃ sl, h'.get? b = some { o with slots := sl }
  free : ∀ b o, h.get? b = some o → H b = none → b ∉ ex → H' b = none
  there : ∀ b o, h.get? b = some o → b ∉ ex → ∃ o', h'.get? b = some o'
  tups : ∀ b xs, H b = some (.tup xs) → H' b = some (.tup xs)
  frzs : ∀ b o u, H b = some (.frz o u) → H' b = some (.frz o u)
  tbls : ∀ b ps, H b = some (.tbl ps) → ∃ more, H' b = some (.tbl (ps ++ more))
section
variable {fs fs' ex ex' : List Addr} {H H1 H2 : Hp} {h h1 h2 h' : Heap} {a x e : Addr} {o : HO}
theorem Un.any (u : Un fs ex H H1 h h1) {b : Addr} {ob : Obj} (q : h.get? b = some ob) (n : H b = none) (hx : b ∉ ex) : ∃ sl, h1.get? b = some { ob with slots := sl } := by
  by_cases hb : b ∈ fs
  · exact u.slot b ob q n hb hx
  · exact ⟨ob.slots, u.keep b ob q n hb hx⟩
theorem Un.trans (a : Un fs ex H H1 h h1) (b : Un fs ex H1 H2 h1 h2) : Un fs ex H H2 h h2 where
  keep := fun c ob q n hc hx => b.keep c ob (a.keep c ob q n hc hx) (a.free c ob q n hx) hc hx
  slot := fun c ob q n hc hx => by
    obtain ⟨sl, e1⟩ := a.slot c ob q n hc hx
    obtain ⟨sl', e2⟩ := b.slot c _ e1 (a.free c ob q n hx) hc hx
    exact ⟨sl', e2⟩
  free := fun c ob q n hx => by
    obtain ⟨o', e1⟩ := a.there c ob q hx
    exact b.free c o' e1 (a.free c ob q n hx) hx
  there := fun c ob q hx => by
    obtain ⟨o', e1⟩ := a.there c ob q hx
    exact b.there c o' e1 hx
  tups := fun c xs q => b.tups c xs (a.tups c xs q)
  frzs := fun c ob xs q => b.frzs c ob xs (a.frzs c ob xs q)
  tbls := fun c ps q => by
    obtain ⟨m1, e1⟩ := a.tbls c ps q
    obtain ⟨m2, e2⟩ := b.tbls c _ e1
    exact ⟨m1 ++ m2, by rw [e2, Array.append_assoc]⟩
theorem Un.kept (k : ∀ b u, h.get? b = some u → h'.get? b = some u) : Un fs ex H H h h' :=
  ⟨fun b ob q _ _ _ => k b ob q, fun b ob q _ _ _ => ⟨ob.slots, k b ob q⟩, fun _ _ _ n _ => n, fun b ob q _ => ⟨ob, k b ob q⟩, fun _ _ q => q, fun _ _ _ q => q, fun _ ps q => ⟨#[], by rw [q]; simp⟩⟩
theorem Un.refl : Un fs ex H H h h := Un.kept fun _ _ q => q
theorem Un.laid (k : ∀ b u, h.get? b = some u → h'.get? b = some u) (hp : h.objs.size ≤ a) (hn : H a = none) : Un fs ex H (upd H a o) h h' where
  keep := fun b u q _ _ _ => k b u q
  slot := fun b u q _ _ _ => ⟨u.slots, k b u q⟩
  free := fun b u q n _ => by rw [upd_ne (Nat.ne_of_lt (Nat.lt_of_lt_of_le (Heap.lt_size q) hp))]; exact n
  there := fun b u q _ => ⟨u, k b u q⟩
  tups := fun b xs q => by rw [upd_ne (ne_of_none q hn)]; exact q
  frzs := fun b u xs q => by rw [upd_ne (ne_of_none q hn)]; exact q
  tbls := fun b ps q => ⟨#[], by rw [upd_ne (ne_of_none q hn), q]; simp⟩
theorem Un.write (mu : Mut (H x)) (he : e = x ∨ H e = some (.own x)) (k : ∀ b u, b ≠ e → h.get? b = some u → h'.get? b = some u) (heo : ∃ u, h'.get? e = some u) : Un fs ex H (upd H x o) h h' := by
  have hx : ∀ b, H b = none → b ≠ x := fun b n z => by subst z; rw [n] at mu; exact mu
  have hb : ∀ b, H b = none → b ≠ e := fun b n z => by
    subst z
    rcases he with r | r
    · exact hx b n r
    · rw [n] at r; cases r
  have hm : ∀ b u, H b = some u → ¬ Mut (some u) → b ≠ x := fun b u q nm z => by subst z; rw [q] at mu; exact nm mu
  refine ⟨fun b u q n _ _ => k b u (hb b n) q, fun b u q n _ _ => ⟨u.slots, k b u (hb b n) q⟩, fun b u q n _ => by rw [upd_ne (hx b n)]; exact n, fun b u q _ => ?_,
    fun b xs q => by rw [upd_ne (hm b _ q fun z => z)]; exact q, fun b u xs q => by rw [upd_ne (hm b _ q fun z => z)]; exact q, fun b ps q => ⟨#[], by rw [upd_ne (hm b _ q fun z => z), q]; simp⟩⟩
  by_cases hbe : b = e
  · subst hbe; exact heo
  · exact ⟨u, k b u hbe q⟩
theorem Un.mono (u : Un fs ex H H1 h h1) (hs : ∀ b ∈ fs, b ∈ fs') (hx : ∀ b ∈ ex, b ∈ ex') : Un fs' ex' H H1 h h1 :=
  ⟨fun b ob q n hb he => u.keep b ob q n (fun z => hb (hs b z)) fun z => he (hx b z), fun _ _ q n _ he => u.any q n fun z => he (hx _ z), fun b ob q n he => u.free b ob q n fun z => he (hx b z), fun b ob q he => u.there b ob q fun z => he (hx b z), u.tups, u.frzs, u.tbls⟩
end

/-! ### the heap without what is tracked -/
def trk (h : Heap) (H : Hp) : List Addr := (List.range h.objs.size).filter fun a => (H a).isSome
def hidT (h : Heap) (H : Hp) : Heap := PySem.W.hideAll h (trk h H)
theorem hidT_size (h : Heap) (H : Hp) : (hidT h H).objs.size = h.objs.size := PySem.W.hideAll_size _ _
theorem hidT_get {h : Heap} {H : Hp} {b : Addr} {o : Obj} (e : h.get? b = some o) (n : H b = none) : (hidT h H).get? b = some o :=
  PySem.W.hideAll_get _ e fun hm => by
    have q : (H b).isSome = true := (List.mem_filter.mp hm).2
    rw [n] at q; simp at q
theorem of_hidT {h : Heap} {H : Hp} {b : Addr} {o : Obj} (e : (hidT h H).get? b = some o) : h.get? b = some o ∧ H b = none := by
  have e' : h.get? b = some o := PySem.W.of_hideAll (trk h H) e
  refine ⟨e', ?_⟩
  cases q : H b with
  | none => rfl
  | some x =>
    have hm : b ∈ trk h H := List.mem_filter.mpr ⟨List.mem_range.mpr (Heap.lt_size e'), by simp [q]⟩
    have z : (hidT h H).get? b = none := PySem.W.hideAll_none (trk h H) hm
    rw [z] at e; cases e

/-! ### OpenK's ledger, filled with every new object but one -/
def allNews (g h : Heap) (L : Addr) : List (Addr × Obj) := (List.range h.objs.size).filterMap fun a => if a = L ∨ (g.get? a).isSome = true then none else (h.get? a).map fun o => (a, o)
def rest (g h : Heap) (L d : Addr) : List (Addr × Obj) := (allNews g h L).filter fun p => decide (p.1 ≠ d)
end L2

namespace L2
open PySem PySem.Spec PyProof.Rows

/-- the module's facts, over the base: the heap at the law's entry without what is tracked there -/
structure Mod (K : PySem.W.Frag) (mg : Str → Option Value) (base : Heap) : Prop where
  kin : K.In base
  glob : base.Ns mainGlobals mg
  blt : ∃ mb, base.Ns builtinsNs mb ∧ ∀ x : Str, x ≠ "__name__" → mb x = bootBuiltins x
  nolimit : base.NoLimit

/-- the context: a def's body (or a comprehension's block) running. base: fixed through the whole law; s₀, H₀: the entry; outer: the frames whose slots others may change (a def's callers); stack: all frames that run;
   ex: iterators that were made ahead of the entry and are walked here (a comprehension's); fn: the names whose cells were made at the entry (a def: all; a comprehension's block: its own); calm: not within an except suite; pn: pins that every state bears; xe: what is wanted of an exception that leaves the code -/
structure Cx where
  prog : Program
  w : World
  K : PySem.W.Frag
  mg : Str → Option Value
  base : Heap
  A : Around
  N : List Str
  s_0 : Shared
  H_0 : Hp
  env : Env
  outer : List Env
  stack : List Env
  ex : List Addr
  fn : Str → Bool
  calm : Bool
  pn : List (Addr × Obj)
  xe : Value → Shared → Prop
/-- the callers' frames -/
def frs (l : List Env) : List Addr := l.filterMap (·.frame)
abbrev Cx.fs (X : Cx) : List Addr := frs X.outer

def Vis (sc : Scope) (x : Str) : Prop := sc.names.lookup x = some .local ∨ sc.names.lookup x = some .cell ∨ sc.names.lookup x = some .free
def Loc (sc : Scope) (x : Str) : Prop := sc.names.lookup x = some .local ∨ sc.names.lookup x = some .cell
def Look (env : Env) (h : Heap) (m : Str → Option Value) (x : Str) (u : Value) : Prop :=
  (env.kindOf x = some .local ∧ m x = some u) ∨ ((env.kindOf x = some .cell ∨ env.kindOf x = some .free) ∧ ∃ c, env.cells.lookup x = some c ∧ h.IsCell c (some u))

structure Cx.Ok (X : Cx) : Prop where
  mod : Mod X.K X.mg X.base
  kind : X.env.scope.kind = .function
  glob : X.env.globals = mainGlobals
  blt : X.env.builtins = builtinsNs
  above : X.s_0.heap.objs.size ≤ X.env.locals
  inj : ∀ x y c, X.env.cells.lookup x = some c → X.env.cells.lookup y = some c → x = y
  has : ∀ x, (X.env.kindOf x = some .cell ∨ X.env.kindOf x = some .free) → ∃ c, X.env.cells.lookup x = some c
  cab : ∀ x c, X.fn x = true → X.env.cells.lookup x = some c → X.s_0.heap.objs.size ≤ c
  hd : X.calm = true → X.A.handled = none
  frames : X.A.frames = some X.stack
  stk : X.stack = X.outer ∨ (X.stack = X.env :: X.outer ∧ X.env.frame = some X.env.locals)
  exf : ∀ b ∈ X.ex, b ≠ X.env.locals ∧ ∀ x c, X.env.cells.lookup x = some c → c ≠ b
  bs : ∀ b o, X.base.get? b = some o → X.s_0.heap.get? b = some o ∧ X.H_0 b = none
  bsz : X.base.objs.size ≤ X.s_0.heap.objs.size
  noex : ∀ b o, X.base.get? b = some o → b ∉ X.ex
  exfs : ∀ b ∈ X.ex, b ∉ X.fs
  funs : X.s_0.heap.FunFrames X.base X.outer
  frf : ∀ b ∈ X.fs, X.H_0 b = none

structure Inv (X : Cx) (pins : List (Addr × Obj)) (σ : List (Option V)) (H : Hp) (s : Shared) : Prop where
  ok : X.Ok
  os : s.os = X.s_0.os
  bare : AllBare s.gens
  base : Un X.fs X.ex X.H_0 H X.s_0.heap s.heap
  loc : ∃ m, s.heap.Ns X.env.locals m ∧ ∀ (i : Nat) (x : Str) (v : V), X.N[i]? = some x → σ[i]? = some (some v) → Vis X.env.scope x → ∃ u, RelV v u ∧ Look X.env s.heap m x u
  cell : ∀ x c, X.env.cells.lookup x = some c → ∃ v, s.heap.IsCell c v
  free : H X.env.locals = none
  freeC : ∀ x c, X.env.cells.lookup x = some c → H c = none
  pin : ∀ p ∈ X.pn ++ pins, s.heap.get? p.1 = some p.2 ∧ H p.1 = none ∧ p.1 ≠ X.env.locals ∧ p.1 ∉ X.fs ∧ ∀ v, p.2.data ≠ .cell v
  hok : HOk X.prog X.w H s.heap
  len : σ.length = X.N.length

section
variable {X : Cx} {pins : List (Addr × Obj)} {σ : List (Option V)} {H H' : Hp} {s : Shared} {h' : Heap}

theorem Cx.Ok.nofr (ok : X.Ok) {b : Addr} {o : Obj} (e : X.base.get? b = some o) : b ∉ X.fs := fun hb => by
  have := (ok.funs.mem hb).1
  rw [e] at this; cases this
theorem Inv.bs (I : Inv X pins σ H s) : ∀ b o, X.base.get? b = some o → s.heap.get? b = some o ∧ H b = none := fun b o e =>
  ⟨I.base.keep b o (I.ok.bs b o e).1 (I.ok.bs b o e).2 (I.ok.nofr e) (I.ok.noex b o e), I.base.free b o (I.ok.bs b o e).1 (I.ok.bs b o e).2 (I.ok.noex b o e)⟩
theorem Inv.bk (I : Inv X pins σ H s) : ∀ b o, X.base.get? b = some o → s.heap.get? b = some o := fun b o e => (I.bs b o e).1
theorem Inv.mod (I : Inv X pins σ H s) : Mod X.K X.mg X.base := I.ok.mod
theorem Inv.kIn (I : Inv X pins σ H s) : X.K.In s.heap := I.ok.mod.kin.keeps I.bk
theorem Inv.nolimit (I : Inv X pins σ H s) : s.heap.NoLimit := I.ok.mod.nolimit.keeps I.bk
/-- the frame over the base: for OpenK's rules (K.In X.base is I.mod.kin) -/
theorem Inv.fr (I : Inv X pins σ H s) : ∃ m, Fr X.base X.env.locals s.heap m :=
  let ⟨m, hn, _⟩ := I.loc
  ⟨m, hn, I.bk, Nat.le_trans I.ok.bsz I.ok.above⟩
theorem Inv.lt (I : Inv X pins σ H s) : X.env.locals < s.heap.objs.size := let ⟨_, hn, _⟩ := I.loc; hn.lt
theorem Inv.sz (I : Inv X pins σ H s) : X.s_0.heap.objs.size ≤ s.heap.objs.size := Nat.le_trans I.ok.above (Nat.le_of_lt I.lt)
theorem Inv.nofs (I : Inv X pins σ H s) {a : Addr} (h : s.heap.objs.size ≤ a) : a ∉ X.fs := fun hb => by
  obtain ⟨_, o, ho, _⟩ := I.ok.funs.mem hb
  exact absurd (Nat.lt_of_lt_of_le (Heap.lt_size ho) (Nat.le_trans I.sz h)) (Nat.lt_irrefl _)
theorem Inv.cne (I : Inv X pins σ H s) : ∀ x c, X.env.cells.lookup x = some c → c ≠ X.env.locals := fun x c e z => by
  obtain ⟨v, o, ho, hd⟩ := I.cell x c e
  obtain ⟨m, ⟨o', es, ep, ho', hd', _⟩, _⟩ := I.loc
  rw [z, ho'] at ho; cases ho; rw [hd'] at hd; cases hd
theorem Inv.funs (I : Inv X pins σ H s) : s.heap.FunFrames X.base X.outer := by
  have all : ∀ (l : List Env), (∀ b ∈ frs l, b ∈ X.fs) → X.s_0.heap.FunFrames X.base l → s.heap.FunFrames X.base l := by
    intro l
    induction l with
    | nil => intro _ _; trivial
    | cons env r ih =>
      intro hs hl
      obtain ⟨hk, ⟨L, o, hf, hn, ho, hd⟩, hr⟩ := hl
      have hL : L ∈ X.fs := hs L (by unfold frs; rw [List.filterMap_cons, hf]; exact List.mem_cons_self)
      obtain ⟨sl, e⟩ := I.base.slot L o ho (I.ok.frf L hL) hL fun z => I.ok.exfs L z hL
      exact ⟨hk, ⟨L, _, hf, hn, e, hd⟩, ih (fun b hb => hs b (by unfold frs; rw [List.filterMap_cons, hf]; exact List.mem_cons_of_mem _ hb)) hr⟩
  exact all X.outer (fun _ hb => hb) I.ok.funs

/-- the frames that run, for a call -/
theorem Inv.stack (I : Inv X pins σ H s) : s.heap.FunFrames X.base X.stack := by
  rcases I.ok.stk with e | ⟨e, hf⟩
  · rw [e]; exact I.funs
  · rw [e]
    obtain ⟨m, hn, _⟩ := I.loc
    refine .cons (by rw [I.ok.kind]; decide) hf hn ?_ I.funs
    exact Heap.get?_none_of_le (Nat.le_trans I.ok.bsz I.ok.above)
theorem Inv.stkSub (I : Inv X pins σ H s) : ∀ b ∈ frs X.stack, b ∈ X.env.locals :: X.fs := fun b hb => by
  rcases I.ok.stk with e | ⟨e, hf⟩
  · rw [e] at hb; exact List.mem_cons_of_mem _ hb
  · rw [e] at hb
    unfold frs at hb
    rw [List.filterMap_cons, hf] at hb
    exact hb
theorem Inv.stkFree (I : Inv X pins σ H s) : ∀ b ∈ frs X.stack, H b = none := fun b hb => by
  rcases List.mem_cons.mp (I.stkSub b hb) with e | hb
  · rw [e]; exact I.free
  · obtain ⟨_, o, ho, _⟩ := I.ok.funs.mem hb
    exact I.base.free b o ho (I.ok.frf b hb) fun z => I.ok.exfs b z hb

/-- THE STEP: the untracked objects but the frame and the records at ch are kept (the callers' frames up to slots), the frame's map is kept, the new abstract heap is held -/
theorem Inv.step {g' : Array GenState} {t' : Nat} {d' : Drawn} {ch : List Addr} (I : Inv X pins σ H s)
    (hch : ∀ b ∈ ch, (b ∈ X.ex ∨ X.s_0.heap.objs.size ≤ b) ∧ b ≠ X.env.locals ∧ (∀ x c, X.env.cells.lookup x = some c → c ≠ b) ∧ ∀ p ∈ X.pn ++ pins, p.1 ≠ b)
    (keep : ∀ b o, b ≠ X.env.locals → b ∉ X.fs → b ∉ ch → s.heap.get? b = some o → H b = none → h'.get? b = some o)
    (slot : ∀ b o, b ≠ X.env.locals → b ∈ X.fs → b ∉ ch → s.heap.get? b = some o → H b = none → ∃ sl, h'.get? b = some { o with slots := sl }) (free : ∀ b o, b ∉ ch → s.heap.get? b = some o → H b = none → H' b = none)
    (there : ∀ b o, b ∉ ch → s.heap.get? b = some o → ∃ o', h'.get? b = some o')
    (tups : ∀ b xs, H b = some (.tup xs) → H' b = some (.tup xs)) (frzs : ∀ b o u, H b = some (.frz o u) → H' b = some (.frz o u)) (tbls : ∀ b ps, H b = some (.tbl ps) → ∃ more, H' b = some (.tbl (ps ++ more)))
    (ns : ∀ m, s.heap.Ns X.env.locals m → h'.Ns X.env.locals m) (hok : HOk X.prog X.w H' h') (hg : AllBare g') :
    Inv X pins σ H' { s with heap := h', gens := g', drawn := d', toks := t' } := by
  have neL : ∀ b o, X.s_0.heap.get? b = some o → b ≠ X.env.locals := fun b o e => Nat.ne_of_lt (Nat.lt_of_lt_of_le (Heap.lt_size e) I.ok.above)
  have neC : ∀ b o, X.s_0.heap.get? b = some o → b ∉ X.ex → b ∉ ch := fun b o e hx hb => by
    rcases (hch b hb).1 with z | z
    · exact hx z
    · exact absurd (Nat.lt_of_lt_of_le (Heap.lt_size e) z) (Nat.lt_irrefl _)
  have cellK : ∀ x c, X.env.cells.lookup x = some c → ∀ v, s.heap.IsCell c v → h'.IsCell c v := fun x c e v ⟨o, ho, hd⟩ => by
    have nch : c ∉ ch := fun z => (hch c z).2.2.1 x c e rfl
    by_cases hc : c ∈ X.fs
    · obtain ⟨sl, q⟩ := slot c o (I.cne x c e) hc nch ho (I.freeC x c e)
      exact ⟨_, q, hd⟩
    · exact ⟨o, keep c o (I.cne x c e) hc nch ho (I.freeC x c e), hd⟩
  refine ⟨I.ok, I.os, hg, ⟨fun b o e n hb hx => ?_, fun b o e n hb hx => ?_, fun b o e n hx => ?_, fun b o e hx => ?_, fun b xs e => tups b xs (I.base.tups b xs e), fun b o xs e => frzs b o xs (I.base.frzs b o xs e), fun b ps e => ?_⟩, ?_, fun x c e => ?_, ?_, fun x c e => ?_, fun p hp => ?_, hok, I.len⟩
  · exact keep b o (neL b o e) hb (neC b o e hx) (I.base.keep b o e n hb hx) (I.base.free b o e n hx)
  · obtain ⟨sl, e1⟩ := I.base.slot b o e n hb hx
    obtain ⟨sl', e2⟩ := slot b _ (neL b o e) hb (neC b o e hx) e1 (I.base.free b o e n hx)
    exact ⟨sl', e2⟩
  · obtain ⟨o', e1⟩ := I.base.there b o e hx
    exact free b o' (neC b o e hx) e1 (I.base.free b o e n hx)
  · obtain ⟨o', e1⟩ := I.base.there b o e hx
    exact there b o' (neC b o e hx) e1
  · obtain ⟨m1, e1⟩ := I.base.tbls b ps e
    obtain ⟨m2, e2⟩ := tbls b _ e1
    exact ⟨m1 ++ m2, by rw [e2, Array.append_assoc]⟩
  · obtain ⟨m, hn, hl⟩ := I.loc
    refine ⟨m, ns m hn, fun i x v e1 e2 e3 => ?_⟩
    obtain ⟨u, r, l⟩ := hl i x v e1 e2 e3
    refine ⟨u, r, ?_⟩
    rcases l with l | ⟨k, c, e, z⟩
    · exact .inl l
    · exact .inr ⟨k, c, e, cellK x c e _ z⟩
  · obtain ⟨v, z⟩ := I.cell x c e
    exact ⟨v, cellK x c e v z⟩
  · obtain ⟨m, ⟨o, _, _, ho, _⟩, _⟩ := I.loc
    exact free _ o (fun z => (hch _ z).2.1 rfl) ho I.free
  · obtain ⟨v, o, ho, hd⟩ := I.cell x c e
    exact free c o (fun z => (hch c z).2.2.1 x c e rfl) ho (I.freeC x c e)
  · obtain ⟨e, n, ne, nf, d⟩ := I.pin p hp
    have nch : p.1 ∉ ch := fun z => (hch p.1 z).2.2.2 p hp rfl
    exact ⟨keep p.1 p.2 ne nf nch e n, free p.1 p.2 nch e n, ne, nf, d⟩
/-- .. where the frame's own object is kept too -/
theorem Inv.un {t' : Nat} (I : Inv X pins σ H s) (u : Un X.fs [] H H' s.heap h') (hok : HOk X.prog X.w H' h') : Inv X pins σ H' { s with heap := h', toks := t' } := by
  obtain ⟨m, ⟨o, es, ep, ho, r⟩, _⟩ := id I.loc
  obtain ⟨sl, hL⟩ := u.any ho I.free (by simp)
  exact I.step (g' := s.gens) (d' := s.drawn) (ch := []) (fun _ z => nomatch z) (fun b o _ hb _ e n => u.keep b o e n hb (by simp)) (fun b o _ hb _ e n => u.slot b o e n hb (by simp)) (fun b o _ e n => u.free b o e n (by simp)) (fun b o _ e => u.there b o e (by simp)) u.tups u.frzs u.tbls (fun m' hm => by
    obtain ⟨o', es', ep', ho', r'⟩ := hm
    rw [ho] at ho'; cases ho'
    exact ⟨_, es', ep', hL, r'⟩) hok I.bare
/-- behind a call (or a comprehension's block): the slots of this frame may have changed too, the records at ch may have turned -/
theorem Inv.call {g' : Array GenState} {t' : Nat} {d' : Drawn} {ch : List Addr} (I : Inv X pins σ H s) (u : Un (frs X.stack) ch H H' s.heap h') (hok : HOk X.prog X.w H' h') (hg : AllBare g')
    (hch : ∀ b ∈ ch, (b ∈ X.ex ∨ X.s_0.heap.objs.size ≤ b) ∧ b ≠ X.env.locals ∧ (∀ x c, X.env.cells.lookup x = some c → c ≠ b) ∧ ∀ p ∈ X.pn ++ pins, p.1 ≠ b) :
    Inv X pins σ H' { s with heap := h', gens := g', drawn := d', toks := t' } := by
  obtain ⟨m, ⟨o, es, ep, ho, r⟩, _⟩ := id I.loc
  obtain ⟨sl, hL⟩ := u.any ho I.free fun z => (hch _ z).2.1 rfl
  exact I.step (ch := ch) hch (fun b o hL hb hc e n => u.keep b o e n (fun z => (List.mem_cons.mp (I.stkSub b z)).elim hL hb) hc) (fun b o _ _ hc e n => u.any e n hc) (fun b o hc e n => u.free b o e n hc) (fun b o hc e => u.there b o e hc) u.tups u.frzs u.tbls (fun m' hm => by
    obtain ⟨o', es', ep', ho', r'⟩ := hm
    rw [ho] at ho'; cases ho'
    exact ⟨_, es', ep', hL, r'⟩) hok hg
/-- an untracked record of ours (an iterator) has turned -/
theorem Inv.turned {t' : Nat} {it : Addr} (I : Inv X pins σ H s) (k : ∀ b o, b ≠ it → s.heap.get? b = some o → h'.get? b = some o) (hn : H it = none) (hL : it ≠ X.env.locals)
    (h1 : it ∈ X.ex ∨ X.s_0.heap.objs.size ≤ it) (h2 : ∀ x c, X.env.cells.lookup x = some c → c ≠ it) (h3 : ∀ p ∈ X.pn ++ pins, p.1 ≠ it) : Inv X pins σ H { s with heap := h', toks := t' } := by
  have nit : ∀ b u, H b = some u → b ≠ it := fun b u e z => by rw [z, hn] at e; cases e
  refine I.step (g' := s.gens) (d' := s.drawn) (ch := [it]) (fun b hb => ?_) (fun b o _ _ hc e _ => k b o (fun z => hc (by simp [z])) e) (fun b o _ _ hc e _ => ⟨o.slots, k b o (fun z => hc (by simp [z])) e⟩) (fun _ _ _ _ n => n)
    (fun b o hc e => ⟨o, k b o (fun z => hc (by simp [z])) e⟩) (fun _ _ e => e) (fun _ _ _ e => e) (fun b ps e => ⟨#[], by rw [e]; simp⟩) (fun m hm => ?_) (fun b u e => ?_) I.bare
  · have e : b = it := by simpa using hb
    subst e
    exact ⟨h1, hL, h2, h3⟩
  · obtain ⟨o, es, ep, ho, r⟩ := hm
    exact ⟨o, es, ep, k _ o (Ne.symm hL) ho, r⟩
  · refine (I.hok b u e).stay (fun c v hc q => k c v ?_ q) (fun _ q => q) fun _ _ q => q
    rcases hc with z | z
    · rw [z]; exact nit b u e
    · exact nit c _ z
theorem Inv.tok (I : Inv X pins σ H s) (t : Nat) : Inv X pins σ H { s with toks := t } := I.un (h' := s.heap) (t' := t) Un.refl I.hok
/-- all objects kept -/
theorem Inv.kept {t' : Nat} (I : Inv X pins σ H s) (k : ∀ b u, s.heap.get? b = some u → h'.get? b = some u) : Inv X pins σ H { s with heap := h', toks := t' } := I.un (Un.kept k) (I.hok.kept k)
/-- a new object laid and tracked -/
theorem Inv.laid {a : Addr} {o : HO} {t' : Nat} (I : Inv X pins σ H s) (k : ∀ b u, s.heap.get? b = some u → h'.get? b = some u) (hp : s.heap.objs.size ≤ a) (new : ObjOk X.prog X.w (upd H a o) h' a o) :
    Inv X pins σ (upd H a o) { s with heap := h', toks := t' } := I.un (Un.laid k hp (I.hok.fresh hp)) (I.hok.laid k hp new)
/-- an object written -/
theorem Inv.write {x e : Addr} {o : HO} {t' : Nat} (I : Inv X pins σ H s) (mu : Mut (H x)) (he : e = x ∨ H e = some (.own x)) (k : ∀ b u, b ≠ e → s.heap.get? b = some u → h'.get? b = some u) (heo : ∃ u, h'.get? e = some u)
    (new : ObjOk X.prog X.w (upd H x o) h' x o) : Inv X pins σ (upd H x o) { s with heap := h', toks := t' } := I.un (Un.write mu he k heo) (I.hok.write mu he k heo new)
/-- forgetting slots, pins -/
theorem Inv.weak {σ' : List (Option V)} (I : Inv X pins σ H s) (hl : σ'.length = σ.length) (w : ∀ (i : Nat) v, σ'[i]? = some (some v) → σ[i]? = some (some v)) : Inv X pins σ' H s :=
  ⟨I.ok, I.os, I.bare, I.base, let ⟨m, hn, hl'⟩ := I.loc; ⟨m, hn, fun i x v e1 e2 e3 => hl' i x v e1 (w i v e2) e3⟩, I.cell, I.free, I.freeC, I.pin, I.hok, hl.trans I.len⟩
theorem Inv.pins_of {pins' : List (Addr × Obj)} (I : Inv X pins σ H s) (h : ∀ p ∈ pins', s.heap.get? p.1 = some p.2 ∧ H p.1 = none ∧ p.1 ≠ X.env.locals ∧ p.1 ∉ X.fs ∧ ∀ v, p.2.data ≠ .cell v) : Inv X pins' σ H s :=
  ⟨I.ok, I.os, I.bare, I.base, I.loc, I.cell, I.free, I.freeC, fun p hp => (List.mem_append.mp hp).elim (fun z => I.pin p (List.mem_append_left _ z)) (h p), I.hok, I.len⟩

theorem nodup_ix {N : List Str} (hN : N.Nodup) {i j : Nat} {x : Str} (a : N[i]? = some x) (b : N[j]? = some x) : i = j := by
  obtain ⟨h1, e1⟩ := List.getElem?_eq_some_iff.mp a
  obtain ⟨h2, e2⟩ := List.getElem?_eq_some_iff.mp b
  exact (List.getElem_inj hN).mp (e1.trans e2.symm)

/-- a name is stored; what changed -/
theorem store_ok2 {M : Model} {A : Around} {E : Value → Shared → Prop} {i : Nat} {x : Str} {v : V} {u : Value} {Q : Unit → Shared → Prop} (I : Inv X pins σ H s) (hN : X.N.Nodup) (hi : X.N[i]? = some x) (hx : Loc X.env.scope x) (r : RelV v u)
    (h : ∀ s', Inv X pins (σ.set i (some v)) H s' → (∃ a, Heap.SameBut a s.heap s'.heap ∧ (a = X.env.locals ∨ X.env.cells.lookup x = some a)) → Q () s') (hf : X.fn x = true ∨ X.env.scope.names.lookup x = some .local := by first | exact .inl rfl | exact .inr rfl | assumption) : wpAny M A (storeName X.env x u) Q E s := by
  obtain ⟨m, hn, hl⟩ := id I.loc
  have hcls : (X.env.scope.kind == .class || (X.env.scope.kind == .module && X.env.locals != X.env.globals)) = false := by rw [I.ok.kind]; rfl
  have hiσ : i < σ.length := by rw [I.len]; exact (List.getElem?_eq_some_iff.mp hi).1
  have cne := I.cne
  have tracked : ∀ {a : Addr} {h' : Heap}, (∃ o, s.heap.get? a = some o ∧ H a = none) → Heap.SameBut a s.heap h' → HOk X.prog X.w H h' := fun {a h'} ha hs b ob e => by
    obtain ⟨_, _, hfree⟩ := ha
    refine (I.hok b ob e).stay (fun c w' hc q => (hs.2 c ?_).trans q) (fun _ q => q) fun _ _ q => q
    rintro rfl
    rcases hc with rfl | hc
    · rw [hfree] at e; cases e
    · rw [hfree] at hc; cases hc
  rcases hx with hk | hk
  · refine wpAny_storeName_local hk hn (fun h' hn' hs => ?_) hcls
    obtain ⟨oL, _, _, hoL, _⟩ := id hn
    refine h _ ⟨I.ok, I.os, I.bare, ⟨fun b o e n hb hx => ?_, fun b o e n hb hx => ?_, I.base.free, fun b o e hx => ?_, I.base.tups, I.base.frzs, I.base.tbls⟩, ⟨_, hn', fun j y v' e1 e2 e3 => ?_⟩, fun y c e => ?_, I.free, I.freeC, fun p hp => ?_, tracked ⟨oL, hoL, I.free⟩ hs, by simpa using I.len⟩ ⟨_, hs, .inl rfl⟩
    · exact (hs.2 b (Nat.ne_of_lt (Nat.lt_of_lt_of_le (Heap.lt_size e) I.ok.above))).trans (I.base.keep b o e n hb hx)
    · obtain ⟨sl, e1⟩ := I.base.slot b o e n hb hx
      exact ⟨sl, (hs.2 b (Nat.ne_of_lt (Nat.lt_of_lt_of_le (Heap.lt_size e) I.ok.above))).trans e1⟩
    · obtain ⟨o', e1⟩ := I.base.there b o e hx
      exact ⟨o', (hs.2 b (Nat.ne_of_lt (Nat.lt_of_lt_of_le (Heap.lt_size e) I.ok.above))).trans e1⟩
    · by_cases hj : j = i
      · subst hj
        rw [hi] at e1; cases e1
        rw [List.getElem?_set_self hiσ] at e2
        cases e2
        exact ⟨u, r, .inl ⟨hk, by simp⟩⟩
      · rw [List.getElem?_set_ne (Ne.symm hj)] at e2
        obtain ⟨u', r', q⟩ := hl j y v' e1 e2 e3
        refine ⟨u', r', ?_⟩
        rcases q with ⟨k, e⟩ | ⟨k, c, e, z⟩
        · refine .inl ⟨k, ?_⟩
          have : y ≠ x := fun e => hj (nodup_ix hN e1 (e ▸ hi))
          simp [this, e]
        · exact .inr ⟨k, c, e, z.sameBut hs (cne y c e)⟩
    · obtain ⟨w', z⟩ := I.cell y c e
      exact ⟨w', z.sameBut hs (cne y c e)⟩
    · obtain ⟨e, n, ne, nf, d⟩ := I.pin p hp
      exact ⟨(hs.2 p.1 ne).trans e, n, ne, nf, d⟩
  · have hfn : X.fn x = true := by
      rcases hf with z | z
      · exact z
      · rw [z] at hk; cases hk
    obtain ⟨c, hc⟩ := I.ok.has x (.inl hk)
    obtain ⟨w', z⟩ := I.cell x c hc
    refine wpAny_storeName_cell I.ok.kind hk hc z (fun h' hc' hs => ?_)
    obtain ⟨oc, hoc, hocd⟩ := id z
    refine h { s with heap := h' } ⟨I.ok, I.os, I.bare, ⟨fun b o e n hb hx => ?_, fun b o e n hb hx => ?_, I.base.free, fun b o e hx => ?_, I.base.tups, I.base.frzs, I.base.tbls⟩, ⟨m, hn.sameBut hs (Ne.symm (cne x c hc)), fun j y v' e1 e2 e3 => ?_⟩, fun y c' e => ?_, I.free, I.freeC, fun p hp => ?_, tracked ⟨oc, hoc, I.freeC x c hc⟩ hs, by simpa using I.len⟩ ⟨c, hs, .inr hc⟩
    · exact (hs.2 b (Nat.ne_of_lt (Nat.lt_of_lt_of_le (Heap.lt_size e) (I.ok.cab x c hfn hc)))).trans (I.base.keep b o e n hb hx)
    · obtain ⟨sl, e1⟩ := I.base.slot b o e n hb hx
      exact ⟨sl, (hs.2 b (Nat.ne_of_lt (Nat.lt_of_lt_of_le (Heap.lt_size e) (I.ok.cab x c hfn hc)))).trans e1⟩
    · obtain ⟨o', e1⟩ := I.base.there b o e hx
      exact ⟨o', (hs.2 b (Nat.ne_of_lt (Nat.lt_of_lt_of_le (Heap.lt_size e) (I.ok.cab x c hfn hc)))).trans e1⟩
    · by_cases hj : j = i
      · subst hj
        rw [hi] at e1; cases e1
        rw [List.getElem?_set_self hiσ] at e2
        cases e2
        exact ⟨u, r, .inr ⟨.inl hk, c, hc, hc'⟩⟩
      · rw [List.getElem?_set_ne (Ne.symm hj)] at e2
        obtain ⟨u', r', q⟩ := hl j y v' e1 e2 e3
        refine ⟨u', r', ?_⟩
        rcases q with q | ⟨k, c', e, z'⟩
        · exact .inl q
        · refine .inr ⟨k, c', e, z'.sameBut hs ?_⟩
          rintro rfl
          exact hj (nodup_ix hN e1 (I.ok.inj _ _ _ e hc ▸ hi))
    · by_cases hcc : c' = c
      · subst hcc; exact ⟨_, hc'⟩
      · obtain ⟨w2, z2⟩ := I.cell y c' e
        exact ⟨w2, z2.sameBut hs hcc⟩
    · obtain ⟨e, n, ne, nf, d⟩ := I.pin p hp
      refine ⟨(hs.2 p.1 ?_).trans e, n, ne, nf, d⟩
      intro q
      rw [q, hoc] at e
      have q' : oc = p.2 := Option.some.inj e
      exact d w' (by rw [← q']; exact hocd)
theorem store_ok {M : Model} {A : Around} {E : Value → Shared → Prop} {i : Nat} {x : Str} {v : V} {u : Value} {Q : Unit → Shared → Prop} (I : Inv X pins σ H s) (hN : X.N.Nodup) (hi : X.N[i]? = some x) (hx : Loc X.env.scope x) (r : RelV v u)
    (h : ∀ s', Inv X pins (σ.set i (some v)) H s' → Q () s') (hf : X.fn x = true ∨ X.env.scope.names.lookup x = some .local := by first | exact .inl rfl | exact .inr rfl | assumption) : wpAny M A (storeName X.env x u) Q E s :=
  store_ok2 I hN hi hx r (fun s' I' _ => h s' I') hf
/-- behind a call or a block, the state as it is -/
theorem Inv.call' {s' : Shared} {ch : List Addr} (I : Inv X pins σ H s) (ho : s'.os = s.os) (u : Un (frs X.stack) ch H H' s.heap s'.heap) (hok : HOk X.prog X.w H' s'.heap) (hg : AllBare s'.gens)
    (hch : ∀ b ∈ ch, (b ∈ X.ex ∨ X.s_0.heap.objs.size ≤ b) ∧ b ≠ X.env.locals ∧ (∀ x c, X.env.cells.lookup x = some c → c ≠ b) ∧ ∀ p ∈ X.pn ++ pins, p.1 ≠ b) : Inv X pins σ H' s' := by
  obtain ⟨h', g', d', t', o'⟩ := s'
  have e : o' = s.os := ho
  subst e
  exact I.call (g' := g') (t' := t') (d' := d') u hok hg hch
end

/-! ### the judgements -/
/-- an exception: its class, its own dict's address (where it has one), the abstract heap behind it -/
abbrev XK := Value → Option Addr → Hp → Prop
abbrev St := List (Option V)
abbrev VK := V → Hp → Prop
/-- an expression's reading; a test's; an argument list's -/
abbrev TE := St → Hp → VK → Prop
abbrev TT := St → Hp → (Bool → Hp → Prop) → Prop
abbrev TA := St → Hp → (List V → Hp → Prop) → Prop
/-- what is wanted behind a statement -/
structure Ends where
  nx : St → Hp → Prop
  rt : VK
  bk : St → Hp → Prop := fun _ _ => False
  ct : St → Hp → Prop := fun _ _ => False
abbrev TS := Ends → St → Hp → Prop

def EP (X : Cx) (pins : List (Addr × Obj)) (σ : St) (Q : VK) (u : Value) (s' : Shared) : Prop := ∃ v H', Inv X pins σ H' s' ∧ RelV v u ∧ Q v H'
def TP (X : Cx) (pins : List (Addr × Obj)) (σ : St) (Q : Bool → Hp → Prop) (b : Bool) (s' : Shared) : Prop := ∃ H', Inv X pins σ H' s' ∧ Q b H'
def AP (X : Cx) (pins : List (Addr × Obj)) (σ : St) (Q : List V → Hp → Prop) (us : List Value) (s' : Shared) : Prop := ∃ vs H', Inv X pins σ H' s' ∧ Vals vs us ∧ Q vs H'
def SP (X : Cx) (pins : List (Addr × Obj)) (D : Ends) (f : Flow) (s' : Shared) : Prop :=
  match f with
  | .next => ∃ σ' H', Inv X pins σ' H' s' ∧ D.nx σ' H'
  | .brk => ∃ σ' H', Inv X pins σ' H' s' ∧ D.bk σ' H'
  | .cont => ∃ σ' H', Inv X pins σ' H' s' ∧ D.ct σ' H'
  | .ret u => ∃ v σ' H', Inv X pins σ' H' s' ∧ RelV v u ∧ D.rt v H'

def PE (X : Cx) (e : Expr) (t : TE) : Prop :=
  ∀ (pins : List (Addr × Obj)) (s : Shared) (σ : St) (H : Hp) (Q : VK), Inv X pins σ H s → t σ H Q → wpAny (model X.prog X.w) X.A (eval e X.env) (EP X pins σ Q) X.xe s
def PT (X : Cx) (e : Expr) (t : TT) : Prop :=
  ∀ (pins : List (Addr × Obj)) (s : Shared) (σ : St) (H : Hp) (Q : Bool → Hp → Prop), Inv X pins σ H s → t σ H Q → wpAny (model X.prog X.w) X.A (isTrue e X.env (eval e X.env)) (TP X pins σ Q) X.xe s
/-- a test whatever its 'whole' is (and, or) -/
def PW (X : Cx) (e : Expr) (t : TT) : Prop :=
  ∀ (whole : Sem Value) (pins : List (Addr × Obj)) (s : Shared) (σ : St) (H : Hp) (Q : Bool → Hp → Prop), Inv X pins σ H s → t σ H Q → wpAny (model X.prog X.w) X.A (isTrue e X.env whole) (TP X pins σ Q) X.xe s
theorem PW.pt {X : Cx} {e : Expr} {t : TT} (h : PW X e t) : PT X e t := h _
/-- an argument list (no star), from the left -/
def PA (X : Cx) (es : List Expr) (t : TA) : Prop :=
  ∀ (pos : Pos) (pins : List (Addr × Obj)) (s : Shared) (σ : St) (H : Hp) (Q : List V → Hp → Prop), Inv X pins σ H s → t σ H Q → wpAny (model X.prog X.w) X.A (spliced (backTo pos (starEach es X.env))) (AP X pins σ Q) X.xe s
def PS (X : Cx) (st : Stmt) (t : TS) : Prop :=
  ∀ (pins : List (Addr × Obj)) (s : Shared) (σ : St) (H : Hp) (D : Ends), Inv X pins σ H s → t D σ H → wpAny (model X.prog X.w) X.A (exec st X.env) (SP X pins D) X.xe s
def PSs (X : Cx) (st : List Stmt) (t : TS) : Prop :=
  ∀ (pins : List (Addr × Obj)) (s : Shared) (σ : St) (H : Hp) (D : Ends), Inv X pins σ H s → t D σ H → wpAny (model X.prog X.w) X.A (execs st X.env) (SP X pins D) X.xe s
/-- weaken the end -/
theorem thn {α : Type} {t : Sem α} {Q Q' : α → Shared → Prop} {M : Model} {A : Around} {E : Value → Shared → Prop} {s : Shared} (h : wpAny M A t Q E s) (hQ : ∀ a s, Q a s → Q' a s) : wpAny M A t Q' E s := wpAny_mono h hQ fun _ _ x => x
end L2

namespace L2
open PySem PySem.Spec PyProof.Rows
section
variable {X : Cx}

/-! ### names and constants -/
def tVar (i : Nat) : TE := fun σ H Q => ∃ v, σ[i]? = some (some v) ∧ Q v H
def tC (v : V) : TE := fun _ H Q => Q v H
theorem pe_var {i : Nat} {x : Str} {pos : Pos} (hN : X.N[i]? = some x) (hv : Vis X.env.scope x) (hd : (x == ("__debug__" : Str)) = false := by decide) (hcd : (x == ("__classdict__" : Str)) = false := by decide) : PE X (.Name x pos) (tVar i) := by
  intro pins s σ H Q I h
  obtain ⟨v, e, h⟩ := h
  obtain ⟨m, hn, hl⟩ := I.loc
  obtain ⟨u, r, l⟩ := hl i x v hN e hv
  have fin : EP X pins σ Q u s := ⟨v, H, I, r, h⟩
  rcases l with ⟨hk, hm⟩ | ⟨hk, c, hc, hcell⟩
  · exact wpAny_Name (wpAny_loadName_local I.ok.kind hk hn hm fin) hd
  · rcases hk with hk | hk
    · exact wpAny_Name (wpAny_loadName_cell I.ok.kind hk hc hcell fin) hd
    · exact wpAny_Name (wpAny_loadName_free I.ok.kind hk hc hcell fin hcd) hd
theorem pe_int {i j pos} : PE X (.Constant (.int i) j pos) (tC (.int i)) := fun _ _ _ H _ I h => wpAny_Constant_int ⟨.int i, H, I.tok _, ⟨_, rfl⟩, h⟩
theorem pe_bl {b j pos} : PE X (.Constant (.bool b) j pos) (tC (.bl b)) := fun _ _ _ H _ I h => Constant_bool ⟨.bl b, H, I, rfl, h⟩
theorem pe_str {x j pos} : PE X (.Constant (.str x) j pos) (tC (.str x)) := fun _ _ _ H _ I h => Calls.Constant_str ⟨.str x, H, I.tok _, ⟨_, rfl⟩, h⟩

/-- a global name of the def -/
def Gl (X : Cx) (x : Str) : Prop := X.env.kindOf x = some .globalImplicit
theorem ld_glob {E : Value → Shared → Prop} {pins : List (Addr × Obj)} {s : Shared} {σ : St} {H : Hp} {x : Str} {u : Value} {pos : Pos} {Q : Value → Shared → Prop} (I : Inv X pins σ H s) (hg : Gl X x) (hm : X.mg x = some u) (h : Q u s)
    (hd : (x == ("__debug__" : Str)) = false := by decide) : wpAny (model X.prog X.w) X.A (eval (.Name x pos) X.env) Q E s :=
  Calls.Name_function_global I.ok.kind hg (Calls.loadGlobal_global (by rw [I.ok.glob]; exact I.mod.glob.keeps I.bk) hm h) hd
theorem ld_blt {E : Value → Shared → Prop} {pins : List (Addr × Obj)} {s : Shared} {σ : St} {H : Hp} {x : Str} {u : Value} {pos : Pos} {Q : Value → Shared → Prop} (I : Inv X pins σ H s) (hg : Gl X x) (hm : X.mg x = none) (hv : bootBuiltins x = some u) (h : Q u s)
    (hn : x ≠ "__name__" := by decide) (hd : (x == ("__debug__" : Str)) = false := by decide) : wpAny (model X.prog X.w) X.A (eval (.Name x pos) X.env) Q E s := by
  obtain ⟨mb, h1, h2⟩ := I.mod.blt
  exact Calls.Name_function_global I.ok.kind hg (Calls.loadGlobal_builtin (by rw [I.ok.glob]; exact I.mod.glob.keeps I.bk) hm (by rw [I.ok.blt]; exact h1.keeps I.bk) ((h2 x hn).trans hv) h) hd
/-- a module's constant, a class, a function, as a value -/
theorem pe_glob {x : Str} {v : V} {u : Value} {pos : Pos} (hg : Gl X x) (hm : X.mg x = some u) (r : RelV v u) (hd : (x == ("__debug__" : Str)) = false := by decide) : PE X (.Name x pos) (tC v) :=
  fun _ _ _ H _ I h => ld_glob I hg hm ⟨v, H, I, r, h⟩ hd
/-! ### arithmetic -/
variable {a b : Expr} {ta tb : TE} {pos : Pos}
/-! ### comparisons -/
def PC (X : Cx) (op : CmpOp) (a b : Expr) (t : TE) : Prop :=
  ∀ (pins : List (Addr × Obj)) (s : Shared) (σ : St) (H : Hp) (Q : VK), Inv X pins σ H s → t σ H Q →
    wpAny (model X.prog X.w) X.A (eval a X.env) (fun v s₁ => wpAny (model X.prog X.w) X.A (eval b X.env) (fun u s₂ => wpAny (model X.prog X.w) X.A (compareOp op v u) (EP X pins σ Q) X.xe s₂) X.xe s₁) X.xe s
theorem nobehind (b : Expr) {op : CmpOp} (h : op ≠ .In) (h2 : op ≠ .NotIn) : behindInMarks op b = false := by
  have e1 : (op == CmpOp.In) = false := by cases op <;> first | rfl | exact absurd rfl h
  have e2 : (op == CmpOp.NotIn) = false := by cases op <;> first | rfl | exact absurd rfl h2
  cases b <;> simp [behindInMarks, e1, e2]
/-- a comparison as a value, as a test -/
def tB (t : TE) : TT := fun σ H Q => t σ H fun x H1 => ∃ c, x = .bl c ∧ Q c H1
theorem pt_cmp {op : CmpOp} {t : TE} (h : PC X op a b t) (h1 : behindInMarks op b = false := by first | exact nobehind _ (by decide) (by decide) | rfl) : PT X (.Compare a [op] [b] pos) (tB t) := by
  intro pins s σ H Q I hw
  refine wpAny_isTrue_Compare1 (thn (h pins s σ H _ I hw) fun v s1 h1 => thn h1 fun u s2 h2 => thn h2 fun c s3 ⟨x, H1, I1, r1, q1⟩ => ?_) h1
  obtain ⟨d, rfl, q⟩ := q1
  cases r1
  exact wpAny_truthy_bool ⟨H1, I1, q⟩
/-- an expression whose value is a bool, as a test -/
theorem pt_val {e : Expr} {t : TE} (h : PE X e t) (he : ∀ whole, isTrue e X.env whole = (do let v ← whole; standAt e.pos; holding [v] (truthy v)) := by intro _; rfl) : PT X e (tB t) := by
  intro pins s σ H Q I hw
  refine isTrue_plain (thn (h pins s σ H _ I hw) fun v s1 ⟨x, H1, I1, r1, q1⟩ => ?_) (he _)
  obtain ⟨d, rfl, q⟩ := q1
  cases r1
  exact wpAny_truthy_bool ⟨H1, I1, q⟩

/-! ### and, or, not -/
variable {tA tB' : TT} {rest : List Expr}
def tAnd (t u : TT) : TT := fun σ H Q => t σ H fun c H1 => if c = true then u σ H1 Q else Q false H1
def tOr (t u : TT) : TT := fun σ H Q => t σ H fun c H1 => if c = true then Q true H1 else u σ H1 Q
def tNot (t : TT) : TT := fun σ H Q => t σ H fun c H1 => Q (!c) H1
theorem pw_and1 (ha : PT X a tA) : PW X (.BoolOp .And [a] pos) tA := by
  intro wh pins s σ H Q I h
  refine isTrue_and (thn (ha pins s σ H Q I h) fun c s1 e => ?_)
  cases c with
  | true => exact isTrue_and_nil e
  | false => exact e
theorem pw_or1 (ha : PT X a tA) : PW X (.BoolOp .Or [a] pos) tA := by
  intro wh pins s σ H Q I h
  refine isTrue_or (thn (ha pins s σ H Q I h) fun c s1 e => ?_)
  cases c with
  | false => exact isTrue_or_nil e
  | true => exact e
theorem pw_and (ha : PT X a tA) (hb : PW X (.BoolOp .And (b :: rest) pos) tB') : PW X (.BoolOp .And (a :: b :: rest) pos) (tAnd tA tB') := by
  intro wh pins s σ H Q I h
  refine isTrue_and (thn (ha pins s σ H _ I h) fun c s1 ⟨H1, I1, q1⟩ => ?_)
  cases c with
  | true => exact hb wh pins s1 σ H1 Q I1 q1
  | false => exact ⟨H1, I1, q1⟩
theorem pw_or (ha : PT X a tA) (hb : PW X (.BoolOp .Or (b :: rest) pos) tB') : PW X (.BoolOp .Or (a :: b :: rest) pos) (tOr tA tB') := by
  intro wh pins s σ H Q I h
  refine isTrue_or (thn (ha pins s σ H _ I h) fun c s1 ⟨H1, I1, q1⟩ => ?_)
  cases c with
  | true => exact ⟨H1, I1, q1⟩
  | false => exact hb wh pins s1 σ H1 Q I1 q1
theorem pt_not (ha : PT X a tA) : PT X (.UnaryOp .Not a pos) (tNot tA) := by
  intro pins s σ H Q I h
  exact isTrue_not (ha pins s σ H (fun c H1 => Q (!c) H1) I h)
/-- .. as values (bools) -/
def tAndV (ta tb : TE) : TE := fun σ H Q => ta σ H fun x H1 => ∃ c, x = .bl c ∧ if c = true then tb σ H1 Q else Q (.bl false) H1
theorem pe_one {op} {t : TE} (h : PE X a t) : PE X (.BoolOp op [a] pos) t := fun pins s σ H Q I hw => BoolOp_one (h pins s σ H Q I hw)
theorem pe_and (ha : PE X a ta) (hb : PE X (.BoolOp .And (b :: rest) pos) tb) : PE X (.BoolOp .And (a :: b :: rest) pos) (tAndV ta tb) := by
  intro pins s σ H Q I h
  refine BoolOp_and (thn (ha pins s σ H _ I h) fun v s1 ⟨x, H1, I1, r1, q1⟩ => ?_)
  obtain ⟨c, rfl, q1⟩ := q1
  cases r1
  refine wpAny_truthy_bool ?_
  cases c with
  | true => exact hb pins s1 σ H1 Q I1 q1
  | false => exact ⟨.bl false, H1, I1, rfl, q1⟩
/-- a if t else b -/
def tIf (t : TT) (ta tb : TE) : TE := fun σ H Q => t σ H fun c H1 => if c = true then ta σ H1 Q else tb σ H1 Q
theorem pe_ifExp {c : Expr} (hc : PT X c tA) (ha : PE X a ta) (hb : PE X b tb) : PE X (.IfExp c a b pos) (tIf tA ta tb) := by
  intro pins s σ H Q I h
  refine wpAny_IfExp (thn (hc pins s σ H _ I h) fun d s1 ⟨H1, I1, q1⟩ => ?_)
  cases d with
  | true => exact ha pins s1 σ H1 Q I1 q1
  | false => exact hb pins s1 σ H1 Q I1 q1
end
end L2

namespace L2
open PySem PySem.Spec PyProof.Rows

/-! ### a list, a tuple that is read: tracked, frozen, or an object of the module -/
def SqL (K : PySem.W.Frag) (H : Hp) (a : Addr) (xs : List V) : Prop :=
  Rd H a (.lst xs) ∨
    ∃ (o : Obj) (its : Array Value) (n : Nat), K.lookup a = some o ∧ o.cls = .type "list" ∧ o.dict = none ∧ o.data = .seq its n ∧ its.size ≤ sizeLine ∧ Vals xs its.toList
def SqT (K : PySem.W.Frag) (H : Hp) (a : Addr) (xs : List V) : Prop :=
  Rd H a (.tup xs) ∨
    ∃ (o : Obj) (its : Array Value) (n : Nat), K.lookup a = some o ∧ o.cls = .type "tuple" ∧ o.data = .seq its n ∧ its.size ≤ sizeLine ∧ Vals xs its.toList
def absV : Value → Option V
  | .none => some .non
  | .bool b => some (.bl b)
  | .int i _ => some (.int i)
  | .str x _ => some (.str x)
  | .bytes b _ => some (.byt b)
  | .float b _ => some (.flt b)
  | .ref a => some (.ref a)
  | .type n => some (.ty n)
  | _ => none
theorem RelV.abs {x : V} {u : Value} (r : RelV x u) : absV u = some x := by
  cases x with
  | non => cases r; rfl
  | bl _ => cases r; rfl
  | int _ => obtain ⟨t, rfl⟩ := r; rfl
  | str _ => obtain ⟨t, rfl⟩ := r; rfl
  | byt _ => obtain ⟨t, rfl⟩ := r; rfl
  | flt _ => obtain ⟨t, rfl⟩ := r; rfl
  | ref _ => cases r; rfl
  | ty _ => cases r; rfl
theorem RelV.inj {x y : V} {u : Value} (r : RelV x u) (q : RelV y u) : x = y := Option.some.inj (r.abs.symm.trans q.abs)
theorem Vals.inj : ∀ {xs ys : List V} {us : List Value}, Vals xs us → Vals ys us → xs = ys
  | _, _, _, .nil, .nil => rfl
  | _, _, _, .cons r t, .cons r' t' => by rw [r.inj r', Vals.inj t t']
section
variable {X : Cx} {pins : List (Addr × Obj)} {σ : St} {H : Hp} {s : Shared} {a : Addr} {xs ys : List V}
theorem SqL.of {K : PySem.W.Frag} (h : H a = some (.lst xs)) : SqL K H a xs := .inl (.inl h)
theorem SqT.of {K : PySem.W.Frag} (h : H a = some (.tup xs)) : SqT K H a xs := .inl (.inl h)
theorem Inv.list (I : Inv X pins σ H s) (h : SqL X.K H a xs) : ∃ its : List Value, Vals xs its ∧ PlainL s.heap a its.toArray ∧ xs.length ≤ sizeLine := by
  rcases h with h | ⟨o, its, n, hk, hc, hd, hs, hz, r⟩
  · obtain ⟨z, its, n, r, e⟩ := h.ok I.hok
    exact ⟨its, r, ⟨_, n, e, rfl, rfl, rfl⟩, z⟩
  · refine ⟨its.toList, r, ⟨o, n, I.kIn a o hk, hc, hd, by simpa using hs⟩, ?_⟩
    have e := r.length
    simp only [Array.length_toList] at e
    omega
theorem Inv.tuple (I : Inv X pins σ H s) (h : SqT X.K H a xs) : ∃ its : List Value, Vals xs its ∧ IsTup s.heap a its.toArray ∧ xs.length ≤ sizeLine := by
  rcases h with h | ⟨o, its, n, hk, hc, hs, hz, r⟩
  · obtain ⟨z, its, r, p⟩ := h.ok I.hok
    exact ⟨its, r, p, z⟩
  · refine ⟨its.toList, r, ⟨o, I.kIn a o hk, hc, n, by simpa using hs⟩, ?_⟩
    have e := r.length
    simp only [Array.length_toList] at e
    omega
theorem Inv.list_inj (I : Inv X pins σ H s) (h : SqL X.K H a xs) (h' : SqL X.K H a ys) : xs = ys := by
  obtain ⟨its, r, ⟨o, n, e, _, _, d⟩, _⟩ := I.list h
  obtain ⟨its', r', ⟨o', n', e', _, _, d'⟩, _⟩ := I.list h'
  rw [e] at e'; cases e'
  rw [d] at d'
  injection d' with d1 _
  have : its = its' := by simpa using congrArg Array.toList d1
  subst this
  exact r.inj r'
end

/-! ### another wish about exceptions -/
abbrev Cx.wish (X : Cx) (E : Value → Shared → Prop) : Cx := { X with xe := E }
/-- no exception leaves -/
abbrev Cx.nox (X : Cx) : Cx := X.wish fun _ _ => False
theorem Cx.Ok.wish {X : Cx} (ok : X.Ok) (E : Value → Shared → Prop) : (X.wish E).Ok :=
  ⟨ok.mod, ok.kind, ok.glob, ok.blt, ok.above, ok.inj, ok.has, ok.cab, ok.hd, ok.frames, ok.stk, ok.exf, ok.bs, ok.bsz, ok.noex, ok.exfs, ok.funs, ok.frf⟩
theorem Cx.Ok.unwish {X : Cx} {E : Value → Shared → Prop} (ok : (X.wish E).Ok) : X.Ok :=
  ⟨ok.mod, ok.kind, ok.glob, ok.blt, ok.above, ok.inj, ok.has, ok.cab, ok.hd, ok.frames, ok.stk, ok.exf, ok.bs, ok.bsz, ok.noex, ok.exfs, ok.funs, ok.frf⟩
section
variable {X : Cx} {pins : List (Addr × Obj)} {σ : St} {H : Hp} {s : Shared} {E : Value → Shared → Prop}
theorem Inv.wish (I : Inv X pins σ H s) (E : Value → Shared → Prop) : Inv (X.wish E) pins σ H s := ⟨I.ok.wish E, I.os, I.bare, I.base, I.loc, I.cell, I.free, I.freeC, I.pin, I.hok, I.len⟩
theorem Inv.unwish (I : Inv (X.wish E) pins σ H s) : Inv X pins σ H s := ⟨I.ok.unwish, I.os, I.bare, I.base, I.loc, I.cell, I.free, I.freeC, I.pin, I.hok, I.len⟩
theorem SP.unwish {D : Ends} {f : Flow} {s' : Shared} (h : SP (X.wish E) pins D f s') : SP X pins D f s' := by
  cases f with
  | next => obtain ⟨σ', H', I, q⟩ := h; exact ⟨σ', H', I.unwish, q⟩
  | brk => obtain ⟨σ', H', I, q⟩ := h; exact ⟨σ', H', I.unwish, q⟩
  | cont => obtain ⟨σ', H', I, q⟩ := h; exact ⟨σ', H', I.unwish, q⟩
  | ret u => obtain ⟨v, σ', H', I, r, q⟩ := h; exact ⟨v, σ', H', I.unwish, r, q⟩
theorem PE.nox {e : Expr} {t : TE} (h : PE X.nox e t) : PE X e t := fun pins s σ H Q I hw =>
  wpAny_mono (h pins s σ H Q (I.wish _) hw) (fun _ _ ⟨v, H', I', r, q⟩ => ⟨v, H', I'.unwish, r, q⟩) fun _ _ z => False.elim z
theorem PT.nox {e : Expr} {t : TT} (h : PT X.nox e t) : PT X e t := fun pins s σ H Q I hw =>
  wpAny_mono (h pins s σ H Q (I.wish _) hw) (fun _ _ ⟨H', I', q⟩ => ⟨H', I'.unwish, q⟩) fun _ _ z => False.elim z
theorem PSs.nox {st : List Stmt} {t : TS} (h : PSs X.nox st t) : PSs X st t := fun pins s σ H D I hw =>
  wpAny_mono (h pins s σ H D (I.wish _) hw) (fun _ _ q => q.unwish) fun _ _ z => False.elim z
end

/-! ### blocks and small statements -/
section
variable {X : Cx} {st : Stmt} {rest : List Stmt} {t u : TS} {e : Expr} {te : TE} {pos : Pos}
def tNext : TS := fun D σ H => D.nx σ H
def tSeq (t u : TS) : TS := fun D σ H => t { D with nx := u D } σ H
theorem pss_nil : PSs X [] tNext := fun _ _ σ H _ I h => wpAny_execs_nil ⟨σ, H, I, h⟩
theorem pss_cons (h1 : PS X st t) (h2 : PSs X rest u) : PSs X (st :: rest) (tSeq t u) := by
  intro pins s σ H D I h
  refine wpAny_execs_cons (thn (h1 pins s σ H { D with nx := u D } I h) fun f s1 q => ?_)
  cases f with
  | next =>
    obtain ⟨σ', H', I', q⟩ := q
    exact h2 pins s1 σ' H' D I' q
  | ret v => exact q
  | brk => exact q
  | cont => exact q
theorem pss_one (h1 : PS X st t) : PSs X [st] t := by
  intro pins s σ H D I h
  refine wpAny_execs_cons (thn (h1 pins s σ H D I h) fun f s1 q => ?_)
  cases f with
  | next => exact wpAny_execs_nil q
  | ret v => exact q
  | brk => exact q
  | cont => exact q
theorem ps_pass : PS X (.Pass pos) tNext := fun _ _ σ H _ I h => wpAny_Pass ⟨σ, H, I, h⟩
/-- in a def's body nothing is shown -/
theorem Inv.quiet {pins : List (Addr × Obj)} {σ : St} {H : Hp} {s : Shared} (I : Inv X pins σ H s) : interactive X.env = false := by simp [interactive, I.ok.kind]
/-- an expression whose value is dropped -/
def tDrop (te : TE) : TS := fun D σ H => te σ H fun _ H1 => D.nx σ H1
theorem ps_expr (he : PE X e te) (hs : swapsWith e none pos.line X.env = pure false := by rfl) : PS X (.Expr e pos) (tDrop te) := by
  intro pins s σ H D I h
  exact wpAny_Expr_any (thn (he pins s σ H _ I h) fun v s1 ⟨x, H1, I1, r1, q1⟩ => ⟨σ, H1, I1, q1⟩) I.quiet hs
def tRet (te : TE) : TS := fun D σ H => te σ H D.rt
theorem ps_ret (he : PE X e te) : PS X (.Return (some e) pos) (tRet te) := by
  intro pins s σ H D I h
  exact wpAny_Return_some (thn (he pins s σ H _ I h) fun v s1 ⟨x, H1, I1, r1, q1⟩ => ⟨x, σ, H1, I1, r1, q1⟩)
def tIfS (c : TT) (t u : TS) : TS := fun D σ H => c σ H fun b H1 => if b = true then t D σ H1 else u D σ H1
theorem ps_if {c : Expr} {a b : List Stmt} {tc : TT} (hc : PT X c tc) (ha : PSs X a t) (hb : PSs X b u) : PS X (.If c a b pos) (tIfS tc t u) := by
  intro pins s σ H D I h
  refine wpAny_If (thn (hc pins s σ H _ I h) fun d s1 ⟨H1, I1, q1⟩ => ?_)
  cases d with
  | true => exact ha pins s1 σ H1 D I1 q1
  | false => exact hb pins s1 σ H1 D I1 q1
/-- code that the proof never comes to -/
def tNever : TS := fun _ _ _ => False
theorem ps_never : PS X st tNever := fun _ _ _ _ _ _ h => h.elim
end

/-! ### targets -/
abbrev TG := V → St → Hp → (St → Hp → Prop) → Prop
abbrev TGs := List V → St → Hp → (St → Hp → Prop) → Prop
def PG (X : Cx) (target : Expr) (t : TG) : Prop :=
  ∀ (pins : List (Addr × Obj)) (s : Shared) (σ : St) (H : Hp) (v : V) (u : Value) (Q : St → Hp → Prop), Inv X pins σ H s → RelV v u → t v σ H Q →
    wpAny (model X.prog X.w) X.A (assign target X.env u) (fun _ s' => ∃ σ' H', Inv X pins σ' H' s' ∧ Q σ' H') X.xe s
/-- several targets, one after another -/
def PGs (X : Cx) (ts : List Expr) (t : TGs) : Prop :=
  ∀ (pins : List (Addr × Obj)) (s : Shared) (σ : St) (H : Hp) (vs : List V) (us : List Value) (Q : St → Hp → Prop), Inv X pins σ H s → Vals vs us → t vs σ H Q →
    wpAny (model X.prog X.w) X.A (assignInOrder ((assignEach ts X.env).map (·.2)) us) (fun _ s' => ∃ σ' H', Inv X pins σ' H' s' ∧ Q σ' H') X.xe s
/-- o[i] = v, by values -/
abbrev TSet := V → V → V → Hp → (Hp → Prop) → Prop
def PSet (X : Cx) (t : TSet) : Prop :=
  ∀ (pins : List (Addr × Obj)) (s : Shared) (σ : St) (H : Hp) (o i v : V) (ov iv u : Value) (Q : Hp → Prop), Inv X pins σ H s → RelV o ov → RelV i iv → RelV v u → t o i v H Q →
    wpAny (model X.prog X.w) X.A (setItem ov iv u) (fun _ s' => ∃ H', Inv X pins σ H' s' ∧ Q H') X.xe s
section
variable {X : Cx} {pos : Pos}
def gName (i : Nat) : TG := fun v σ H Q => Q (σ.set i (some v)) H
theorem pg_name {i : Nat} {x : Str} (hN : X.N.Nodup) (hi : X.N[i]? = some x) (hx : Loc X.env.scope x) (hf : X.fn x = true ∨ X.env.scope.names.lookup x = some .local := by first | exact .inl rfl | exact .inr rfl | assumption) : PG X (.Name x pos) (gName i) := by
  intro pins s σ H v u Q I r h
  exact wpAny_assign_Name (store_ok I hN hi hx r (fun s' I' => ⟨_, H, I', h⟩) hf)
def gNil : TGs := fun vs σ H Q => vs = [] ∧ Q σ H
def gCons (t : TG) (u : TGs) : TGs := fun vs σ H Q => ∃ v r, vs = v :: r ∧ t v σ H fun σ' H' => u r σ' H' Q
theorem pgs_nil : PGs X [] gNil := by
  intro pins s σ H vs us Q I r h
  obtain ⟨e, h⟩ := h
  subst e
  cases r
  exact assignInOrder_nil ⟨σ, H, I, h⟩
theorem pgs_cons {e : Expr} {es : List Expr} {t : TG} {u : TGs} (h1 : PG X e t) (h2 : PGs X es u)
    (hs : (assignEach (e :: es) X.env).map (·.2) = assign e X.env :: (assignEach es X.env).map (·.2) := by rfl) : PGs X (e :: es) (gCons t u) := by
  intro pins s σ H vs us Q I r h
  obtain ⟨v, vr, e1, h⟩ := h
  subst e1
  cases r with
  | cons r rr =>
    rw [hs]
    refine assignInOrder_cons (thn (h1 pins s σ H _ _ _ I r h) fun _ s1 ⟨σ1, H1, I1, q1⟩ => ?_)
    exact h2 pins s1 σ1 H1 _ _ Q I1 rr q1
/-- (a, b, ..) = a tuple of that length -/
def gTup (K : PySem.W.Frag) (n : Nat) (t : TGs) : TG := fun v σ H Q => ∃ a xs, v = .ref a ∧ SqT K H a xs ∧ xs.length = n ∧ t xs σ H Q
theorem pg_tup {es : List Expr} {k : Nat} {t : TGs} {n : Nat} (hc : X.calm = true) (h : PGs X es t)
    (hn : (assignEach es X.env).length = n := by rfl) (hst : (assignEach es X.env).findIdx? (·.1) = none := by rfl) : PG X (.Tuple es k pos) (gTup X.K n t) := by
  intro pins s σ H v u Q I r hw
  obtain ⟨a, xs, e1, hq, hl, hw⟩ := hw
  subst e1
  cases r
  obtain ⟨its, rv, ht, hz⟩ := I.tuple hq
  refine assign_Tuple_tuple (I.ok.hd hc) ht (by simp [hn, ← hl, rv.length]) hst fun h' hx => ?_
  have I1 : Inv X pins σ H { s with heap := h' } := I.kept (t' := s.toks) fun b o e => hx b o (Nat.ne_of_lt (Heap.lt_size e)) e
  exact h pins _ σ H xs _ Q I1 (by simpa using rv) hw
/-- o[i] = .. -/
def gSub (to ti : TE) (t : TSet) : TG := fun v σ H Q => to σ H fun o H1 => ti σ H1 fun i H2 => t o i v H2 fun H3 => Q σ H3
theorem pg_sub {o i : Expr} {to ti : TE} {t : TSet} (ho : PE X o to) (hi : PE X i ti) (hs : PSet X t)
    (ha : ∀ v, assign (.Subscript o i pos) X.env v = (do
      let ov ← holding [v] (eval o X.env)
      let iv ← holding [v, ov] (eval i X.env)
      standAt pos
      holding [v, ov, iv] (setItem ov iv v)
      release [v, ov, iv] []) := by intro _; rfl) : PG X (.Subscript o i pos) (gSub to ti t) := by
  intro pins s σ H v u Q I r h
  rw [ha]
  refine wpAny_bind (wpAny_holding (thn (ho pins s σ H _ I h) fun ov s1 ⟨x, H1, I1, r1, q1⟩ => ?_))
  refine wpAny_bind (wpAny_holding (thn (hi pins s1 σ H1 _ I1 q1) fun iv s2 ⟨y, H2, I2, r2, q2⟩ => ?_))
  refine wpAny_bind (wpAny_standAt (wpAny_bind (wpAny_holding (thn (hs pins s2 σ H2 x y v ov iv u _ I2 r1 r2 r q2) fun _ s3 ⟨H3, I3, q3⟩ => ?_))))
  exact wpAny_release ⟨σ, H3, I3, q3⟩
/-- target = value -/
def tAsg (te : TE) (g : TG) : TS := fun D σ H => te σ H fun x H1 => g x σ H1 D.nx
theorem ps_asg {tg e : Expr} {te : TE} {g : TG} (he : PE X e te) (hg : PG X tg g) (hs : swapsWithSole [tg] e pos.line X.env = pure false := by rfl) (hw : swappedStores [tg] e X.env = pure none := by rfl)
    (h1 : (assignEach [tg] X.env).map (·.2) = [assign tg X.env] := by rfl) : PS X (.Assign [tg] e pos) (tAsg te g) := by
  intro pins s σ H D I h
  refine wpAny_Assign_stores (thn (he pins s σ H _ I h) fun v s1 ⟨x, H1, I1, r1, q1⟩ => ?_) hs hw
  rw [h1]
  exact thn (hg pins s1 σ H1 x v _ I1 r1 q1) fun _ s2 q => q
/-- name = value -/
theorem ps_set {i : Nat} {x : Str} {e : Expr} {te : TE} {pos' : Pos} (hN : X.N.Nodup) (hi : X.N[i]? = some x) (hx : Loc X.env.scope x) (he : PE X e te) (hs : swapsWith e (some (.Name x pos')) pos.line X.env = pure false := by rfl) (hf : X.fn x = true ∨ X.env.scope.names.lookup x = some .local := by first | exact .inl rfl | exact .inr rfl | assumption) :
    PS X (.Assign [.Name x pos'] e pos) (tAsg te (gName i)) := by
  intro pins s σ H D I h
  refine wpAny_Assign_Name (thn (he pins s σ H _ I h) fun v s1 ⟨y, H1, I1, r1, q1⟩ => ?_) hs
  exact store_ok I1 hN hi hx r1 (fun s2 I2 => ⟨_, H1, I2, q1⟩) hf
end

/-! ### while -/
section
variable {X : Cx} {pos : Pos}
/-- the invariant W with its measure -/
def tWhile (c : TT) (tb : TS) : TS := fun D σ H => ∃ W : Nat → St → Hp → Prop, (∃ m, W m σ H) ∧ ∀ m σ H, W m σ H →
  c σ H fun b H1 => if b = true then ∃ N : St → Hp → Prop, (∀ σ' H', N σ' H' → ∃ m', m' < m ∧ W m' σ' H') ∧ tb { D with nx := N, ct := N, bk := D.nx } σ H1 else D.nx σ H1
theorem ps_while {c : Expr} {body : List Stmt} {tc : TT} {tb : TS} (hp : PassesOwn (model X.prog X.w) X.A X.env X.xe) (hc : PT X c tc) (hb : PSs X body tb) : PS X (.While c body [] pos) (tWhile tc tb) := by
  intro pins s σ H D I h
  obtain ⟨W, ⟨m0, w0⟩, turn⟩ := h
  refine wpAny_While (codeAny_whileLoop (fun n s' => ∃ σ' H', Inv X pins σ' H' s' ∧ W n σ' H') ?_ m0 ⟨σ, H, I, w0⟩)
  rintro n s1 ⟨σ1, H1, I1, w1⟩
  refine wpAny_passesOwn hp (thn (hc pins s1 σ1 H1 _ I1 (turn n σ1 H1 w1)) fun b s2 ⟨H2, I2, q2⟩ => ?_)
  cases b with
  | true =>
    obtain ⟨N, hN, q2⟩ := q2
    rw [if_pos rfl]
    refine wpAny_passesOwn hp (thn (hb pins s2 σ1 H2 _ I2 q2) fun f s3 q3 => ?_)
    cases f with
    | next =>
      obtain ⟨σ3, H3, I3, n3⟩ := q3
      obtain ⟨m', hm, w3⟩ := hN σ3 H3 n3
      exact ⟨m', hm, σ3, H3, I3, w3⟩
    | cont =>
      obtain ⟨σ3, H3, I3, n3⟩ := q3
      obtain ⟨m', hm, w3⟩ := hN σ3 H3 n3
      exact ⟨m', hm, σ3, H3, I3, w3⟩
    | brk => exact q3
    | ret v => exact q3
  | false =>
    rw [if_neg Bool.false_ne_true]
    exact wpAny_execs_nil ⟨σ1, H2, I2, q2⟩
end

/-! ### what a loop or a comprehension walks -/
/-- at turn i: it yields x (the heap may grow), or it stops -/
structure It where
  go : Nat → Hp → Prop
  yld : Nat → Hp → V → Hp → Prop
  stop : Nat → Hp → Prop
/-- the iterator's own objects may turn: they are not the frame's, not pinned, younger than the entry (or a comprehension's own) -/
def FpOk (X : Cx) (pins : List (Addr × Obj)) (H : Hp) (b : Addr) : Prop :=
  H b = none ∧ b ≠ X.env.locals ∧ b ∉ X.fs ∧ (b ∈ X.ex ∨ X.s_0.heap.objs.size ≤ b) ∧ (∀ x c, X.env.cells.lookup x = some c → c ≠ b) ∧ ∀ p ∈ X.pn ++ pins, p.1 ≠ b
theorem Inv.fpOk {X : Cx} {pins : List (Addr × Obj)} {σ : St} {H H' : Hp} {s : Shared} {b : Addr} (I : Inv X pins σ H s) (hb : s.heap.objs.size ≤ b) (hn : H' b = none) : FpOk X pins H' b := by
  refine ⟨hn, Nat.ne_of_gt (Nat.lt_of_lt_of_le I.lt hb), I.nofs hb, .inr (Nat.le_trans I.sz hb), fun x c e z => ?_, fun p hp z => ?_⟩
  · obtain ⟨v, q⟩ := I.cell x c e
    exact absurd (Nat.lt_of_lt_of_le q.lt (by rw [z]; exact hb)) (Nat.lt_irrefl _)
  · exact absurd (Nat.lt_of_lt_of_le (Heap.lt_size (I.pin p hp).1) (by rw [z]; exact hb)) (Nat.lt_irrefl _)
structure Turn (P : Program) (w : World) (K : PySem.W.Frag) (tg : Expr) (J : It) (fp : List Addr) (it : Addr) (tn : Nat → Heap → Prop) : Prop where
  mem : it ∈ fp
  obj : ∀ i h, tn i h → ∀ b ∈ fp, ∃ o, h.get? b = some o ∧ ∀ v, o.data ≠ .cell v
  keep : ∀ i h h', tn i h → (∀ b ∈ fp, ∀ o, h.get? b = some o → h'.get? b = some o) → tn i h'
  item : ∀ (X : Cx), X.prog = P → X.w = w → X.K = K → X.calm = true → ∀ (i : Nat) (pins : List (Addr × Obj)) (s : Shared) (σ : St) (H : Hp) (E : Value → Shared → Prop), Inv X pins σ H s → (∀ b ∈ fp, FpOk X pins H b) → tn i s.heap → J.go i H →
    wpAny (model P w) X.A (pyNext (.ref it)) (fun r s1 => ∃ u, r = some u ∧
      wpAny (model P w) X.A (letOwnedTupleGo tg (.ref it) u) (fun _ s2 => ∃ x H', Inv X pins σ H' s2 ∧ RelV x u ∧ J.yld i H x H' ∧ tn (i + 1) s2.heap ∧ ∀ b ∈ fp, H' b = none) E s1) E s
  done : ∀ (X : Cx), X.prog = P → X.w = w → X.K = K → X.calm = true → ∀ (i : Nat) (pins : List (Addr × Obj)) (s : Shared) (σ : St) (H : Hp) (E : Value → Shared → Prop), Inv X pins σ H s → (∀ b ∈ fp, FpOk X pins H b) → tn i s.heap → J.stop i H →
    wpAny (model P w) X.A (pyNext (.ref it)) (fun r s1 => r = none ∧ Inv X pins σ H s1) E s
  self : ∀ (A : Around) (i : Nat) (s : Shared) (Q : Value → Shared → Prop) (E : Value → Shared → Prop), tn i s.heap → Q (.ref it) s → wpAny (model P w) A (pyIter (.ref it)) Q E s
abbrev TI := St → Hp → (It → Hp → Prop) → Prop
/-- an iterator has come -/
def PIE (X : Cx) (pins : List (Addr × Obj)) (σ : St) (tg : Expr) (R : It → Hp → Prop) (itv : Value) (s2 : Shared) : Prop :=
  ∃ (it : Addr) (fp : List Addr) (tn : Nat → Heap → Prop) (J : It) (H' : Hp), itv = .ref it ∧ Inv X pins σ H' s2 ∧ Turn X.prog X.w X.K tg J fp it tn ∧ tn 0 s2.heap ∧ (∀ b ∈ fp, FpOk X pins H' b) ∧ R J H'
def PI (X : Cx) (tg iter : Expr) (wi : TI) : Prop :=
  ∀ (pins : List (Addr × Obj)) (s : Shared) (σ : St) (H : Hp) (R : It → Hp → Prop), Inv X pins σ H s → wi σ H R →
    wpAny (model X.prog X.w) X.A (eval iter X.env) (fun v s1 => wpAny (model X.prog X.w) X.A (pyIter v) (PIE X pins σ tg R) X.xe s1) X.xe s

/-- the step ahead of the store is nothing for an iterator that keeps no tuple -/
theorem go_of {M : Model} {A : Around} {E : Value → Shared → Prop} {s : Shared} {tg : Expr} {it : Addr} {u : Value} {o : Obj} {n : String} {vs : Array Value} {Q : Unit → Shared → Prop} (ho : s.heap.get? it = some o) (hc : o.cls = .type n) (hd : o.data = .fields vs)
    (hn : ["enumerate", "zip", "dict_itemiterator", "dict_reverseitemiterator", "odict_iterator", "itertools.zip_longest", "itertools.pairwise"].contains n = false) (hQ : Q () s) : wpAny M A (letOwnedTupleGo tg (.ref it) u) Q E s := by
  unfold letOwnedTupleGo
  cases tg <;> first
    | exact wpAny_pure hQ
    | (cases u <;> first
        | exact wpAny_pure hQ
        | (refine wpAny_bind (wpAny_load ho ?_)
           rw [hc, hd]
           show wpAny M A (if (["enumerate", "zip", "dict_itemiterator", "dict_reverseitemiterator", "odict_iterator", "itertools.zip_longest", "itertools.pairwise"].contains n && vs[0]? == some (rawInt _)) = true then _ else _) Q E s
           rw [if_neg (by intro h; rw [hn, Bool.false_and] at h; cases h)]
           exact wpAny_pure hQ))

/-- the list at a, as it stands at each turn (a loop may append to it) -/
def Itl (K : PySem.W.Frag) (a : Addr) : It :=
  ⟨fun i H => ∃ xs x, SqL K H a xs ∧ xs[i]? = some x, fun i H x H' => H' = H ∧ ∀ xs, SqL K H a xs → xs[i]? = some x, fun i H => ∃ xs, SqL K H a xs ∧ xs.length ≤ i⟩
/-- lo, lo + 1, .. (n of them) -/
def Itr (lo : Int) (n : Nat) : It := ⟨fun i _ => i < n, fun i H x H' => H' = H ∧ x = .int (lo + i), fun i _ => n ≤ i⟩
theorem turn_list {P : Program} {w : World} {K : PySem.W.Frag} {tg : Expr} (a it : Addr) : Turn P w K tg (Itl K a) [it] it (fun i h => h.IsListIter it a i) where
  mem := by simp
  obj := fun i h st b hb => by
    have e : b = it := by simpa using hb
    subst e
    obtain ⟨o, e, c, d⟩ := st
    exact ⟨o, e, fun v z => by rw [d] at z; cases z⟩
  keep := fun i h h' st k => st.at fun o e => k it (by simp) o e
  item := by
    intro X hP hw hK hc i pins s σ H E I hf st hg
    subst hP hw hK
    obtain ⟨xs, x, hq, hx⟩ := hg
    obtain ⟨its, rv, p, hz⟩ := I.list hq
    obtain ⟨u, hu, ru⟩ := rv.get hx
    obtain ⟨f0, f1, f2, f3, f4, f5⟩ := hf it (by simp)
    refine wpAny_pyNext_list_item st p.isList (x := u) (by simpa using hu) fun h' st' sb => ?_
    have I1 : Inv X pins σ H { s with heap := h' } := I.turned (t' := s.toks) (fun b o hb e => (sb.2 b hb).trans e) f0 f1 f3 f4 f5
    obtain ⟨o, e, c, d⟩ := id st'
    exact ⟨u, rfl, go_of (s := { s with heap := h' }) e c d (by decide) ⟨x, H, I1, ru, ⟨rfl, fun ys hy => by rw [I.list_inj hy hq]; exact hx⟩, st', fun b hb => (hf b hb).1⟩⟩
  done := by
    intro X hP hw hK hc i pins s σ H E I hf st hg
    subst hP hw hK
    obtain ⟨xs, hq, hx⟩ := hg
    obtain ⟨its, rv, p, hz⟩ := I.list hq
    obtain ⟨f0, f1, f2, f3, f4, f5⟩ := hf it (by simp)
    have hl := rv.length
    exact wpAny_pyNext_list_end (I.ok.hd hc) st p.isList (by simp; omega) fun h' eb => ⟨rfl, I.turned (t' := s.toks) (fun b o hb e => eb b o hb e) f0 f1 f3 f4 f5⟩
  self := fun _ _ _ _ _ st h => wpAny_pyIter_listiter st h
theorem turn_range {P : Program} {w : World} {K : PySem.W.Frag} {tg : Expr} (it : Addr) (lo : Int) (n : Nat) : Turn P w K tg (Itr lo n) [it] it (fun i h => IsRangeIter h it (lo + (i : Nat) * 1) ((n : Int) - (i : Nat)) 1) where
  mem := by simp
  obj := fun i h st b hb => by
    have e : b = it := by simpa using hb
    subst e
    exact ⟨_, st, fun v z => by
      have z' : Data.fields _ = Data.cell v := z
      cases z'⟩
  keep := fun i h h' st k => k it (by simp) _ st
  item := by
    intro X hP hw hK hc i pins s σ H E I hf st hg
    subst hP hw hK
    obtain ⟨f0, f1, f2, f3, f4, f5⟩ := hf it (by simp)
    have W := Walks.range (prog := X.prog) (w := X.w) (I.ok.hd hc) it lo 1 n
    refine W.item i s _ _ hg st fun v h' tk hv st' kk => ?_
    obtain ⟨t, rfl⟩ := hv
    have I1 : Inv X pins σ H { s with heap := h', toks := tk } := I.turned (fun b o hb e => kk b o (by simpa using hb) e) f0 f1 f3 f4 f5
    refine ⟨_, rfl, go_of (s := { s with heap := h', toks := tk }) (n := "range_iterator") st' rfl rfl (by decide) ⟨.int (lo + i), H, I1, ⟨t, ?_⟩, ⟨rfl, rfl⟩, st', fun b hb => (hf b hb).1⟩⟩
    rw [Int.mul_one]
  done := by
    intro X hP hw hK hc i pins s σ H E I hf st hg
    subst hP hw hK
    obtain ⟨f0, f1, f2, f3, f4, f5⟩ := hf it (by simp)
    exact wpAny_pyNext_range_end (I.ok.hd hc) st (by have : n ≤ i := hg; omega) fun h' eb => ⟨rfl, I.turned (t' := s.toks) (fun b o hb e => eb b o hb e) f0 f1 f3 f4 f5⟩
  self := fun _ _ _ _ _ st h => wpAny_pyIter_rangeiter st h
end L2

namespace L2
open PySem PySem.Spec PyProof.Rows
section
variable {X : Cx} {tg : Expr}
def iList (K : PySem.W.Frag) (tl : TE) : TI := fun σ H R => tl σ H fun x H1 => ∃ a, x = .ref a ∧ (∃ xs, SqL K H1 a xs) ∧ R (Itl K a) H1
theorem pi_list {l : Expr} {tl : TE} (hl : PE X l tl) : PI X tg l (iList X.K tl) := by
  intro pins s σ H R I h
  refine thn (hl pins s σ H _ I h) fun v s1 ⟨x, H1, I1, r1, q1⟩ => ?_
  obtain ⟨a, e, ⟨xs, hq⟩, q⟩ := q1
  subst e
  cases r1
  obtain ⟨its, rv, p, hz⟩ := I1.list hq
  refine wpAny_pyIter_list p.isList ?_
  refine ⟨s1.heap.objs.size, [s1.heap.objs.size], _, _, H1, rfl, I1.kept (t' := s1.toks) fun b o e => Heap.get?_push_of_some _ e, turn_list a _, ⟨_, Heap.get?_push_size _ rfl, rfl, rfl⟩, fun b hb => ?_, q⟩
  have e : b = s1.heap.objs.size := by simpa using hb
  subst e
  exact I1.fpOk (Nat.le_refl _) (I1.hok.fresh (Nat.le_refl _))
/-- a range object just made, walked -/
theorem range_it {pins : List (Addr × Obj)} {σ : St} {H : Hp} {s : Shared} {R : It → Hp → Prop} {E : Value → Shared → Prop} {lo hi : Int} {t u v : Tok} {tk : Nat} (I : Inv X pins σ H s) (h1 : -(2 ^ 62) ≤ lo) (h2 : lo < 2 ^ 62) (h3 : -(2 ^ 62) ≤ hi) (h4 : hi < 2 ^ 62)
    (q : R (Itr lo (hi - lo).toNat) H) : wpAny (model X.prog X.w) X.A (pyIter (.ref s.heap.objs.size)) (PIE X pins σ tg R) E { s with heap := s.heap.push { cls := .type "range", data := .fields #[.int lo t, .int hi u, .int 1 v] }, toks := tk } := by
  refine wpAny_pyIter_range (IsRange.new ..) (small_one h1 h2 h3 h4) ?_
  have I1 : Inv X pins σ H { s with heap := s.heap.push { cls := .type "range", data := .fields #[.int lo t, .int hi u, .int 1 v] }, toks := tk } := I.kept fun b o e => Heap.get?_push_of_some _ e
  refine ⟨(s.heap.push { cls := .type "range", data := .fields #[.int lo t, .int hi u, .int 1 v] }).objs.size, [(s.heap.push { cls := .type "range", data := .fields #[.int lo t, .int hi u, .int 1 v] }).objs.size], _, _, H, rfl,
    I1.kept (t' := tk) fun b o e => Heap.get?_push_of_some _ e, turn_range _ lo (hi - lo).toNat, ?_, fun b hb => ?_, q⟩
  · have e1 : lo + ((0 : Nat) : Int) * 1 = lo := by simp
    have e2 : (((hi - lo).toNat : Nat) : Int) - ((0 : Nat) : Int) = Builtin.Range.rangeSize lo hi 1 := by rw [rangeSize_one]; split <;> omega
    show IsRangeIter _ _ (lo + ((0 : Nat) : Int) * 1) ((((hi - lo).toNat : Nat) : Int) - ((0 : Nat) : Int)) 1
    rw [e1, e2]
    exact Heap.get?_push_size _ rfl
  · have e : b = (s.heap.push { cls := .type "range", data := .fields #[.int lo t, .int hi u, .int 1 v] }).objs.size := by simpa using hb
    subst e
    exact I1.fpOk (Nat.le_refl _) (I1.hok.fresh (Nat.le_refl _))
def iRng1 (ta : TA) : TI := fun σ H R => ta σ H fun vs H1 => ∃ j : Int, vs = [.int j] ∧ -(2 ^ 62) ≤ j ∧ j < 2 ^ 62 ∧ R (Itr 0 j.toNat) H1
theorem pi_range1 {a : Expr} {ta : TA} {p pos : Pos} (hg : Gl X "range") (hm : X.mg "range" = none) (ha : PA X [a] ta) (hs : starEach [a] X.env = [(false, eval a X.env)] := by rfl) : PI X tg (.Call (.Name "range" p) [a] [] pos) (iRng1 ta) := by
  intro pins s σ H R I h
  refine Call_ (ld_blt I hg hm boot_range (PyProof.Rows.callWith_type1 (thn (ha pos pins s σ H _ I h) fun us s1 ⟨vs, H1, I1, r1, q1⟩ => ?_) hs rfl))
  obtain ⟨j, e, q1, q2, q⟩ := q1
  subst e
  cases r1 with
  | cons r rr =>
    cases rr
    obtain ⟨t, rfl⟩ := r
    exact call_range_1 (range_it I1 (by omega) (by omega) q1 q2 (by simpa using q))
/-! ### for -/
/-- W: the invariant by the turn and a measure; N: what the body is to reach -/
def tFor (wi : TI) (g : TG) (tb : TS) : TS := fun D σ H => wi σ H fun J H1 => ∃ W : Nat → Nat → St → Hp → Prop, (∃ m, W 0 m σ H1) ∧ ∀ i m σ H, W i m σ H →
  (J.stop i H ∧ D.nx σ H) ∨ (J.go i H ∧ ∃ N : St → Hp → Prop, (∀ σ' H', N σ' H' → ∃ m', m' < m ∧ W (i + 1) m' σ' H') ∧ ∀ x H', J.yld i H x H' → g x σ H' fun σ2 H2 => tb { D with nx := N, ct := N, bk := D.nx } σ2 H2)
/-- the records at fp as they stand -/
def pinsAt (fp : List Addr) (h : Heap) : List (Addr × Obj) := fp.filterMap fun b => (h.get? b).map fun o => (b, o)
theorem mem_pinsAt {fp : List Addr} {h : Heap} {b : Addr} {o : Obj} (hb : b ∈ fp) (e : h.get? b = some o) : (b, o) ∈ pinsAt fp h := List.mem_filterMap.mpr ⟨b, hb, by rw [e]; rfl⟩
theorem of_pinsAt {fp : List Addr} {h : Heap} {p : Addr × Obj} (hp : p ∈ pinsAt fp h) : p.1 ∈ fp ∧ h.get? p.1 = some p.2 := by
  obtain ⟨b, hb, e⟩ := List.mem_filterMap.mp hp
  cases q : h.get? b with
  | none => rw [q] at e; cases e
  | some o =>
    rw [q] at e
    have e' : (b, o) = p := Option.some.inj e
    subst e'
    exact ⟨hb, q⟩
theorem Inv.pinned {pins : List (Addr × Obj)} {σ : St} {H : Hp} {s : Shared} {fp : List Addr} (I : Inv X pins σ H s) (hf : ∀ b ∈ fp, FpOk X pins H b) (ho : ∀ b ∈ fp, ∃ o, s.heap.get? b = some o ∧ ∀ v, o.data ≠ .cell v) : Inv X (pins ++ pinsAt fp s.heap) σ H s :=
  I.pins_of fun p hp => (List.mem_append.mp hp).elim (fun z => I.pin p (List.mem_append_right _ z)) fun z => by
    obtain ⟨hb, e⟩ := of_pinsAt z
    obtain ⟨f0, f1, f2, _⟩ := hf p.1 hb
    obtain ⟨o, e', d⟩ := ho p.1 hb
    rw [e] at e'; cases e'
    exact ⟨e, f0, f1, f2, d⟩
theorem Inv.unpinned {pins pl : List (Addr × Obj)} {σ : St} {H : Hp} {s : Shared} (I : Inv X (pins ++ pl) σ H s) : Inv X pins σ H s := I.pins_of fun p hp => I.pin p (List.mem_append_right _ (List.mem_append_left _ hp))
theorem ps_for {iter : Expr} {body : List Stmt} {wi : TI} {g : TG} {tb : TS} {pos : Pos} (hp : PassesOwn (model X.prog X.w) X.A X.env X.xe) (hc : X.calm = true) (hi : PI X tg iter wi) (hg : PG X tg g) (hb : PSs X body tb)
    (hs : ∀ x, foldedSetIterable iter X.env x = pure x := by intro _; rfl) : PS X (.For tg iter body [] pos) (tFor wi g tb) := by
  intro pins s σ H D I h
  refine wpAny_For (thn (hi pins s σ H _ I h) fun v s1 h1 => thn h1 fun itv s2 h2 => ?_) hs
  obtain ⟨it, fp, tn, J, H2, e, I2, T, st2, f2, W, ⟨m0, w0⟩, turn⟩ := h2
  subst e
  -- what stays true of the iterator's objects through the loop
  have stat : ∀ {H' : Hp}, (∀ b ∈ fp, H' b = none) → ∀ b ∈ fp, FpOk X pins H' b := fun hn b hb => ⟨hn b hb, (f2 b hb).2⟩
  refine codeAny_forLoop_any (fun n s' => ∃ i σ' H', Inv X pins σ' H' s' ∧ tn i s'.heap ∧ (∀ b ∈ fp, H' b = none) ∧ W i n σ' H') ?_ m0 ⟨0, σ, H2, I2, st2, fun b hb => (f2 b hb).1, w0⟩
  rintro n s3 ⟨i, σ3, H3, I3, st3, fr3, w3⟩
  rcases turn i n σ3 H3 w3 with ⟨stop, qn⟩ | ⟨go, N, hN, step⟩
  · refine wpAny_passesOwn hp (thn (T.done X rfl rfl rfl hc i pins s3 σ3 H3 X.xe I3 (stat fr3) st3 stop) fun r s4 ⟨hr, I4⟩ => ?_)
    subst hr
    exact wpAny_execs_nil ⟨σ3, H3, I4, qn⟩
  · refine wpAny_passesOwn hp (thn (T.item X rfl rfl rfl hc i pins s3 σ3 H3 X.xe I3 (stat fr3) st3 go) fun r s4 ⟨u, hr, h4⟩ => ?_)
    subst hr
    refine wpAny_passesOwn hp (thn h4 fun _ s5 ⟨x, H5, I5, r5, y5, st5, fr5⟩ => ?_)
    have I5' := I5.pinned (stat fr5) (T.obj _ _ st5)
    refine wpAny_passesOwn hp (thn (hg _ s5 σ3 H5 x u _ I5' r5 (step x H5 y5)) fun _ s6 ⟨σ6, H6, I6, q6⟩ => ?_)
    refine wpAny_passesOwn hp (thn (hb _ s6 σ6 H6 _ I6 q6) fun f s7 q7 => ?_)
    have again : ∀ {σ7 : St} {H7 : Hp}, Inv X (pins ++ pinsAt fp s5.heap) σ7 H7 s7 → N σ7 H7 → ∃ m, m < n ∧ ∃ i σ' H', Inv X pins σ' H' s7 ∧ tn i s7.heap ∧ (∀ b ∈ fp, H' b = none) ∧ W i m σ' H' := fun {σ7 H7} I7 n7 => by
      obtain ⟨m', hm, w7⟩ := hN σ7 H7 n7
      refine ⟨m', hm, i + 1, σ7, H7, I7.unpinned, T.keep _ _ _ st5 fun b hb o e => (I7.pin (b, o) (List.mem_append_right _ (List.mem_append_right _ (mem_pinsAt hb e)))).1, fun b hb => ?_, w7⟩
      obtain ⟨o, e, d⟩ := T.obj _ _ st5 b hb
      exact (I7.pin (b, o) (List.mem_append_right _ (List.mem_append_right _ (mem_pinsAt hb e)))).2.1
    cases f with
    | next => obtain ⟨σ7, H7, I7, n7⟩ := q7; exact again I7 n7
    | cont => obtain ⟨σ7, H7, I7, n7⟩ := q7; exact again I7 n7
    | brk => obtain ⟨σ7, H7, I7, q7⟩ := q7; exact ⟨σ7, H7, I7.unpinned, q7⟩
    | ret v => obtain ⟨x7, σ7, H7, I7, r7, q7⟩ := q7; exact ⟨x7, σ7, H7, I7.unpinned, r7, q7⟩
end

/-! ### the forms one uses -/
/-- over a list that the body leaves as it is -/
theorem for_list {K : PySem.W.Frag} {a : Addr} {xs : List V} {g : TG} {tb : TS} {D : Ends} {σ : St} {H : Hp} (Pv : Nat → St → Hp → Prop) (h0 : Pv 0 σ H) (hl : ∀ i σ H, i ≤ xs.length → Pv i σ H → SqL K H a xs)
    (hs : ∀ i x σ H, xs[i]? = some x → Pv i σ H → g x σ H fun σ2 H2 => tb { D with nx := Pv (i + 1), ct := Pv (i + 1), bk := D.nx } σ2 H2) (hd : ∀ σ H, Pv xs.length σ H → D.nx σ H) :
    ∃ W : Nat → Nat → St → Hp → Prop, (∃ m, W 0 m σ H) ∧ ∀ i m σ H, W i m σ H →
      ((Itl K a).stop i H ∧ D.nx σ H) ∨ ((Itl K a).go i H ∧ ∃ N : St → Hp → Prop, (∀ σ' H', N σ' H' → ∃ m', m' < m ∧ W (i + 1) m' σ' H') ∧ ∀ x H', (Itl K a).yld i H x H' → g x σ H' fun σ2 H2 => tb { D with nx := N, ct := N, bk := D.nx } σ2 H2) := by
  refine ⟨fun i m σ H => m = xs.length - i ∧ i ≤ xs.length ∧ Pv i σ H, ⟨xs.length, by simp, Nat.zero_le _, h0⟩, ?_⟩
  rintro i m σ H ⟨rfl, hi, p⟩
  have q := hl i σ H hi p
  by_cases hlt : i < xs.length
  · refine .inr ⟨⟨xs, xs[i], q, by simp [hlt]⟩, Pv (i + 1), fun σ' H' p' => ⟨xs.length - (i + 1), by omega, rfl, hlt, p'⟩, fun x H' y => ?_⟩
    obtain ⟨e, y⟩ := y
    subst e
    exact hs i x σ _ (y xs q) p
  · have e : i = xs.length := by omega
    subst e
    exact .inl ⟨⟨xs, q, Nat.le_refl _⟩, hd σ H p⟩
theorem for_range {lo : Int} {n : Nat} {g : TG} {tb : TS} {D : Ends} {σ : St} {H : Hp} (Pv : Nat → St → Hp → Prop) (h0 : Pv 0 σ H)
    (hs : ∀ i σ H, i < n → Pv i σ H → g (.int (lo + i)) σ H fun σ2 H2 => tb { D with nx := Pv (i + 1), ct := Pv (i + 1), bk := D.nx } σ2 H2) (hd : ∀ σ H, Pv n σ H → D.nx σ H) :
    ∃ W : Nat → Nat → St → Hp → Prop, (∃ m, W 0 m σ H) ∧ ∀ i m σ H, W i m σ H →
      ((Itr lo n).stop i H ∧ D.nx σ H) ∨ ((Itr lo n).go i H ∧ ∃ N : St → Hp → Prop, (∀ σ' H', N σ' H' → ∃ m', m' < m ∧ W (i + 1) m' σ' H') ∧ ∀ x H', (Itr lo n).yld i H x H' → g x σ H' fun σ2 H2 => tb { D with nx := N, ct := N, bk := D.nx } σ2 H2) := by
  refine ⟨fun i m σ H => m = n - i ∧ i ≤ n ∧ Pv i σ H, ⟨n, by simp, Nat.zero_le _, h0⟩, ?_⟩
  rintro i m σ H ⟨rfl, hi, p⟩
  by_cases hlt : i < n
  · refine .inr ⟨hlt, Pv (i + 1), fun σ' H' p' => ⟨n - (i + 1), by omega, rfl, hlt, p'⟩, fun x H' y => ?_⟩
    obtain ⟨e, y⟩ := y
    subst e y
    exact hs i σ _ hlt p
  · have e : i = n := by omega
    subst e
    exact .inl ⟨Nat.le_refl _, hd σ H p⟩
end L2

namespace L2
open PySem PySem.Spec PyProof.Rows

abbrev R2 := V → V → Hp → VK → Prop
/-- a two-place operation on values: f is binaryOp op, inplaceOp op or compareOp op -/
def OpR (X : Cx) (f : Value → Value → Sem Value) (r : R2) : Prop :=
  ∀ (pins : List (Addr × Obj)) (s : Shared) (σ : St) (H : Hp) (x y : V) (v u : Value) (Q : VK), Inv X pins σ H s → RelV x v → RelV y u → r x y H Q →
    wpAny (model X.prog X.w) X.A (f v u) (EP X pins σ Q) X.xe s
/-- a one-place operation -/
def UnR (X : Cx) (f : Value → Sem Value) (r : V → Hp → VK → Prop) : Prop :=
  ∀ (pins : List (Addr × Obj)) (s : Shared) (σ : St) (H : Hp) (x : V) (v : Value) (Q : VK), Inv X pins σ H s → RelV x v → r x H Q →
    wpAny (model X.prog X.w) X.A (f v) (EP X pins σ Q) X.xe s
/-- a call of a value that is known (a builtin, a type) with values -/
def CallR (X : Cx) (f : Value) (r : List V → Hp → VK → Prop) : Prop :=
  ∀ (pins : List (Addr × Obj)) (s : Shared) (σ : St) (H : Hp) (xs : List V) (us : List Value) (Q : VK), Inv X pins σ H s → Vals xs us → r xs H Q →
    wpAny (model X.prog X.w) X.A (call f us) (EP X pins σ Q) X.xe s
def tOp (r : R2) (ta tb : TE) : TE := fun σ H Q => ta σ H fun x H1 => tb σ H1 fun y H2 => r x y H2 Q
def tUn (r : V → Hp → VK → Prop) (ta : TE) : TE := fun σ H Q => ta σ H fun x H1 => r x H1 Q
/-- ints in, under C, and a value out -/
def rI (C : Int → Int → Prop) (g : Int → Int → V) : R2 := fun x y H Q => ∃ i j, x = .int i ∧ y = .int j ∧ C i j ∧ Q (g i j) H
def rI0 (g : Int → Int → V) : R2 := fun x y H Q => ∃ i j, x = .int i ∧ y = .int j ∧ Q (g i j) H
def rU (g : Int → V) : V → Hp → VK → Prop := fun x H Q => ∃ i, x = .int i ∧ Q (g i) H

section
variable {X : Cx} {a b c : Expr} {ta tb tc : TE} {pos : Pos}

theorem binT (ha : PE X a ta) (hb : PE X b tb) {pins : List (Addr × Obj)} {s : Shared} {σ : St} {H : Hp} {R : V → V → Hp → Prop} (I : Inv X pins σ H s)
    (h : ta σ H fun x H1 => tb σ H1 fun y H2 => R x y H2) {Q : Value → Shared → Prop} {f : Value → Value → Sem Value}
    (hf : ∀ v u s2 x y H2, Inv X pins σ H2 s2 → RelV x v → RelV y u → R x y H2 → wpAny (model X.prog X.w) X.A (f v u) Q X.xe s2) :
    wpAny (model X.prog X.w) X.A (eval a X.env) (fun v s₁ => wpAny (model X.prog X.w) X.A (eval b X.env) (fun u s₂ => wpAny (model X.prog X.w) X.A (f v u) Q X.xe s₂) X.xe s₁) X.xe s := by
  refine thn (ha pins s σ H _ I h) fun v s1 ⟨x, H1, I1, r1, q1⟩ => ?_
  refine thn (hb pins s1 σ H1 _ I1 q1) fun u s2 ⟨y, H2, I2, r2, q2⟩ => ?_
  exact hf v u s2 x y H2 I2 r1 r2 q2

theorem pe_op {op : Operator} {r : R2} (ho : OpR X (binaryOp op) r) (ha : PE X a ta) (hb : PE X b tb) : PE X (.BinOp a op b pos) (tOp r ta tb) := by
  intro pins s σ H Q I h
  exact wpAny_BinOp (binT ha hb I h fun v u s2 x y H2 I2 rx ry q => ho pins s2 σ H2 x y v u Q I2 rx ry q)
theorem pe_un {op : UnaryOp} {r : V → Hp → VK → Prop} (ho : UnR X (unaryOp op) r) (ha : PE X a ta) : PE X (.UnaryOp op a pos) (tUn r ta) := by
  intro pins s σ H Q I h
  exact UnaryOp_ (thn (ha pins s σ H _ I h) fun v s1 ⟨x, H1, I1, r1, q1⟩ => ho pins s1 σ H1 x v Q I1 r1 q1)
/-! ### ints -/
theorem opI {f : Value → Value → Sem Value} {C : Int → Int → Prop} {g : Int → Int → Int}
    (rule : ∀ (i j : Int) (t u : Tok) (s : Shared) (Q : Value → Shared → Prop) (E : Value → Shared → Prop), C i j → Q (.int (g i j) s.toks) { s with toks := s.toks + 1 } → wpAny (model X.prog X.w) X.A (f (.int i t) (.int j u)) Q E s) :
    OpR X f (rI C fun i j => .int (g i j)) := by
  intro pins s σ H x y v u Q I rx ry h
  obtain ⟨i, j, rfl, rfl, hc, q⟩ := h
  obtain ⟨t, rfl⟩ := rx
  obtain ⟨t', rfl⟩ := ry
  exact rule i j t t' s _ _ hc ⟨.int (g i j), H, I.tok _, ⟨_, rfl⟩, q⟩
theorem opI0 {f : Value → Value → Sem Value} {g : Int → Int → Int}
    (rule : ∀ (i j : Int) (t u : Tok) (s : Shared) (Q : Value → Shared → Prop) (E : Value → Shared → Prop), Q (.int (g i j) s.toks) { s with toks := s.toks + 1 } → wpAny (model X.prog X.w) X.A (f (.int i t) (.int j u)) Q E s) :
    OpR X f (rI0 fun i j => .int (g i j)) := by
  intro pins s σ H x y v u Q I rx ry h
  obtain ⟨i, j, rfl, rfl, q⟩ := h
  obtain ⟨t, rfl⟩ := rx
  obtain ⟨t', rfl⟩ := ry
  exact rule i j t t' s _ _ ⟨.int (g i j), H, I.tok _, ⟨_, rfl⟩, q⟩
theorem opB0 {f : Value → Value → Sem Value} {g : Int → Int → Bool}
    (rule : ∀ (i j : Int) (t u : Tok) (s : Shared) (Q : Value → Shared → Prop) (E : Value → Shared → Prop), Q (.bool (g i j)) s → wpAny (model X.prog X.w) X.A (f (.int i t) (.int j u)) Q E s) :
    OpR X f (rI0 fun i j => .bl (g i j)) := by
  intro pins s σ H x y v u Q I rx ry h
  obtain ⟨i, j, rfl, rfl, q⟩ := h
  obtain ⟨t, rfl⟩ := rx
  obtain ⟨t', rfl⟩ := ry
  exact rule i j t t' s _ _ ⟨.bl (g i j), H, I, rfl, q⟩

def CDiv (i j : Int) : Prop := 0 < j ∧ j < 1073741824
def CPow (i j : Int) : Prop := 0 ≤ j ∧ j ≤ 1000000 ∧ i.natAbs < 2 ^ 64
def CMul (i j : Int) : Prop := (-(2 ^ 64) < i ∧ i < 2 ^ 64) ∨ (-(2 ^ 64) < j ∧ j < 2 ^ 64)
theorem CMul.ok {i j : Int} (h : CMul i j) : IntMulOk i j := by
  rcases h with ⟨h1, h2⟩ | ⟨h1, h2⟩
  · exact .of_left (intBits_le_64 h1 h2)
  · exact .of_right (intBits_le_64 h1 h2)
theorem two_pow_nn (k : Nat) : (0 : Int) ≤ 2 ^ k := by
  rw [two_pow_cast]
  exact Int.natCast_nonneg _

theorem op_add : OpR X (binaryOp .Add) (rI0 fun i j => .int (i + j)) := opI0 fun _ _ _ _ _ _ _ q => add_int q
theorem op_sub : OpR X (binaryOp .Sub) (rI0 fun i j => .int (i - j)) := opI0 fun _ _ _ _ _ _ _ q => sub_int q
theorem op_mul : OpR X (binaryOp .Mult) (rI CMul fun i j => .int (i * j)) := opI fun _ _ _ _ _ _ _ hc q => mul_int q hc.ok
/-- // by a positive divisor -/
theorem op_fdiv : OpR X (binaryOp .FloorDiv) (rI CDiv fun i j => .int (i / j)) := opI fun i j _ _ _ _ _ hc q => by
  have h1 : (0 : Int) < j := hc.1
  have h2 : j < 1073741824 := hc.2
  exact floordiv_int (by omega) (by rw [Int.fdiv_eq_ediv_of_nonneg i (by omega)]; exact q) (.inl (PyProof.noPylong_small (by omega)))
/-- % by a positive divisor of any size -/
theorem op_mod : OpR X (binaryOp .Mod) (rI (fun _ j => 0 < j) fun i j => .int (i % j)) := opI fun i j _ _ _ _ _ hc q => by
  have h1 : (0 : Int) < j := hc
  exact mod_int' (by omega) (by rw [Int.fmod_eq_emod_of_nonneg i (by omega)]; exact q)
theorem op_shl : OpR X (binaryOp .LShift) (rI CPow fun i j => .int (i * 2 ^ j.toNat)) := opI fun _ _ _ _ _ _ _ hc q => lshift_int_small hc.1 hc.2.1 hc.2.2 q
theorem op_shr : OpR X (binaryOp .RShift) (rI (fun _ j => 0 ≤ j) fun i j => .int (i / 2 ^ j.toNat)) := opI fun i j _ _ _ _ _ hc q =>
  rshift_int hc (by rw [Int.fdiv_eq_ediv_of_nonneg i (two_pow_nn _)]; exact q)
theorem op_and : OpR X (binaryOp .BitAnd) (rI0 fun i j => .int (Builtin.bitAnd i j)) := opI0 fun _ _ _ _ _ _ _ q => and_int q
theorem op_xor : OpR X (binaryOp .BitXor) (rI0 fun i j => .int (Builtin.bitXor i j)) := opI0 fun _ _ _ _ _ _ _ q => xor_int q

theorem unI {f : Value → Sem Value} {g : Int → Int}
    (rule : ∀ (i : Int) (t : Tok) (s : Shared) (Q : Value → Shared → Prop) (E : Value → Shared → Prop), Q (.int (g i) s.toks) { s with toks := s.toks + 1 } → wpAny (model X.prog X.w) X.A (f (.int i t)) Q E s) :
    UnR X f (rU fun i => .int (g i)) := by
  intro pins s σ H x v Q I rx h
  obtain ⟨i, rfl, q⟩ := h
  obtain ⟨t, rfl⟩ := rx
  exact rule i t s _ _ ⟨.int (g i), H, I.tok _, ⟨_, rfl⟩, q⟩
theorem un_neg : UnR X (unaryOp .USub) (rU fun i => .int (-i)) := unI fun _ _ _ _ _ q => neg_int q
/-! ### bools among ints: n += (a < b) -/
end

/-! ### comparisons -/
/-- the scalars that == tells apart as data does -/
def scal : V → V → Bool
  | .non, .non => true | .non, .int _ => true | .int _, .non => true | .non, .bl _ => true | .bl _, .non => true | .non, .str _ => true | .str _, .non => true
  | .int _, .int _ => true | .bl _, .bl _ => true | .str _, .str _ => true | .byt _, .byt _ => true
  | .int _, .str _ => true | .str _, .int _ => true | .bl _, .str _ => true | .str _, .bl _ => true
  | _, _ => false
def rEq : R2 := fun x y H Q => scal x y = true ∧ Q (.bl (decide (x = y))) H
def rNe : R2 := fun x y H Q => scal x y = true ∧ Q (.bl (!decide (x = y))) H

theorem dec_int {i j : Int} : decide (V.int i = V.int j) = (i == j) := by
  rw [Bool.eq_iff_iff]
  simp
theorem dec_bl {i j : Bool} : decide (V.bl i = V.bl j) = (i == j) := by
  rw [Bool.eq_iff_iff]
  simp
theorem dec_str {i j : Str} : decide (V.str i = V.str j) = (i == j) := by
  rw [Bool.eq_iff_iff]
  simp
theorem dec_byt {i j : Array UInt8} : decide (V.byt i = V.byt j) = (i.toList == j.toList) := by
  rw [Bool.eq_iff_iff]
  cases i
  cases j
  simp

section
variable {X : Cx} {a b c : Expr} {ta tb tc : TE} {pos : Pos}
theorem fin_bl {pins : List (Addr × Obj)} {σ : St} {H : Hp} {s : Shared} {Q : VK} {k k' : Bool} (I : Inv X pins σ H s) (q : Q (.bl k) H) (e : k = k') : EP X pins σ Q (.bool k') s := by
  subst e
  exact ⟨.bl k, H, I, rfl, q⟩
theorem op_eq : OpR X (compareOp .Eq) rEq := by
  intro pins s σ H x y v u Q I rx ry h
  obtain ⟨hs, q⟩ := h
  cases x with
  | non =>
    cases rx
    cases y with
    | non => cases ry; exact PySem.EqNone.eq_none_none (fin_bl I q (by simp))
    | bl j => cases ry; exact PySem.EqNone.eq_none_bool (fin_bl I q (by simp))
    | int j => obtain ⟨t', rfl⟩ := ry; exact PySem.EqNone.eq_none_int (fin_bl I q (by simp))
    | str j => obtain ⟨t', rfl⟩ := ry; exact PySem.EqNone.eq_none_str (fin_bl I q (by simp))
    | _ => exact absurd (show false = true from hs) Bool.false_ne_true
  | bl i =>
    cases rx
    cases y with
    | non => cases ry; exact PySem.EqNone.eq_bool_none (fin_bl I q (by simp))
    | bl j => cases ry; exact eq_bool (fin_bl I q dec_bl)
    | str j => obtain ⟨t', rfl⟩ := ry; exact PySem.EqMixed.eq_bool_str (fin_bl I q (by simp))
    | _ => exact absurd (show false = true from hs) Bool.false_ne_true
  | int i =>
    obtain ⟨t, rfl⟩ := rx
    cases y with
    | non => cases ry; exact PySem.EqNone.eq_int_none (fin_bl I q (by simp))
    | int j => obtain ⟨t', rfl⟩ := ry; exact eq_int (fin_bl I q dec_int)
    | str j => obtain ⟨t', rfl⟩ := ry; exact PySem.EqMixed.eq_int_str (fin_bl I q (by simp))
    | _ => exact absurd (show false = true from hs) Bool.false_ne_true
  | str i =>
    obtain ⟨t, rfl⟩ := rx
    cases y with
    | non => cases ry; exact PySem.EqNone.eq_str_none (fin_bl I q (by simp))
    | bl j => cases ry; exact PySem.EqMixed.eq_str_bool (fin_bl I q (by simp))
    | int j => obtain ⟨t', rfl⟩ := ry; exact PySem.EqMixed.eq_str_int (fin_bl I q (by simp))
    | str j => obtain ⟨t', rfl⟩ := ry; exact eq_str (fin_bl I q dec_str)
    | _ => exact absurd (show false = true from hs) Bool.false_ne_true
  | byt i =>
    obtain ⟨t, rfl⟩ := rx
    cases y with
    | byt j => obtain ⟨t', rfl⟩ := ry; exact PySem.W.eq_bytes (fin_bl I q dec_byt)
    | _ => exact absurd (show false = true from hs) Bool.false_ne_true
  | _ => cases y <;> exact absurd (show false = true from hs) Bool.false_ne_true
theorem op_ne : OpR X (compareOp .NotEq) rNe := by
  intro pins s σ H x y v u Q I rx ry h
  obtain ⟨hs, q⟩ := h
  cases x with
  | non =>
    cases rx
    cases y with
    | non => cases ry; exact PySem.EqNone.ne_none_none (fin_bl I q (by simp))
    | bl j => cases ry; exact PySem.EqNone.ne_none_bool (fin_bl I q (by simp))
    | int j => obtain ⟨t', rfl⟩ := ry; exact PySem.EqNone.ne_none_int (fin_bl I q (by simp))
    | str j => obtain ⟨t', rfl⟩ := ry; exact PySem.EqNone.ne_none_str (fin_bl I q (by simp))
    | _ => exact absurd (show false = true from hs) Bool.false_ne_true
  | bl i =>
    cases rx
    cases y with
    | non => cases ry; exact PySem.EqNone.ne_bool_none (fin_bl I q (by simp))
    | bl j => cases ry; exact ne_bool (fin_bl I q (congrArg not dec_bl))
    | str j => obtain ⟨t', rfl⟩ := ry; exact PySem.EqMixed.ne_bool_str (fin_bl I q (by simp))
    | _ => exact absurd (show false = true from hs) Bool.false_ne_true
  | int i =>
    obtain ⟨t, rfl⟩ := rx
    cases y with
    | non => cases ry; exact PySem.EqNone.ne_int_none (fin_bl I q (by simp))
    | int j => obtain ⟨t', rfl⟩ := ry; exact ne_int (fin_bl I q (congrArg not dec_int))
    | str j => obtain ⟨t', rfl⟩ := ry; exact PySem.EqMixed.ne_int_str (fin_bl I q (by simp))
    | _ => exact absurd (show false = true from hs) Bool.false_ne_true
  | str i =>
    obtain ⟨t, rfl⟩ := rx
    cases y with
    | non => cases ry; exact PySem.EqNone.ne_str_none (fin_bl I q (by simp))
    | bl j => cases ry; exact PySem.EqMixed.ne_str_bool (fin_bl I q (by simp))
    | int j => obtain ⟨t', rfl⟩ := ry; exact PySem.EqMixed.ne_str_int (fin_bl I q (by simp))
    | str j => obtain ⟨t', rfl⟩ := ry; exact ne_str (fin_bl I q (congrArg not dec_str))
    | _ => exact absurd (show false = true from hs) Bool.false_ne_true
  | byt i =>
    obtain ⟨t, rfl⟩ := rx
    cases y with
    | byt j => obtain ⟨t', rfl⟩ := ry; exact PySem.W.ne_bytes (fin_bl I q (congrArg not dec_byt))
    | _ => exact absurd (show false = true from hs) Bool.false_ne_true
  | _ => cases y <;> exact absurd (show false = true from hs) Bool.false_ne_true

theorem op_lt : OpR X (compareOp .Lt) (rI0 fun i j => .bl (decide (i < j))) := opB0 fun _ _ _ _ _ _ _ q => lt_int q
theorem op_le : OpR X (compareOp .LtE) (rI0 fun i j => .bl (decide (i ≤ j))) := opB0 fun _ _ _ _ _ _ _ q => le_int q
theorem op_gt : OpR X (compareOp .Gt) (rI0 fun i j => .bl (decide (j < i))) := opB0 fun _ _ _ _ _ _ _ q => gt_int q
theorem op_ge : OpR X (compareOp .GtE) (rI0 fun i j => .bl (decide (j ≤ i))) := opB0 fun _ _ _ _ _ _ _ q => ge_int q
/-- two rules for one operation: by cases -/
theorem OpR.or {f : Value → Value → Sem Value} {r r' : R2} (h : OpR X f r) (h' : OpR X f r') : OpR X f (fun x y H Q => r x y H Q ∨ r' x y H Q) := by
  intro pins s σ H x y v u Q I rx ry q
  rcases q with q | q
  · exact h pins s σ H x y v u Q I rx ry q
  · exact h' pins s σ H x y v u Q I rx ry q

theorem nomark (b : Expr) {op : CmpOp} (h : op ≠ .In := by decide) (h2 : op ≠ .NotIn := by decide) : behindInMarks op b = false := by
  have e1 : (op == CmpOp.In) = false := by cases op <;> first | rfl | exact absurd rfl h
  have e2 : (op == CmpOp.NotIn) = false := by cases op <;> first | rfl | exact absurd rfl h2
  cases b <;> simp [behindInMarks, e1, e2]
/-- a comparison as a value; hm: nomark b, or (for in, not in) by with_unfolding_all rfl -/
theorem pe_cmpR {op : CmpOp} {r : R2} (ho : OpR X (compareOp op) r) (ha : PE X a ta) (hb : PE X b tb) (hm : behindInMarks op b = false) : PE X (.Compare a [op] [b] pos) (tOp r ta tb) := by
  intro pins s σ H Q I h
  exact wpAny_Compare1 (binT ha hb I h fun v u s2 x y H2 I2 rx ry q => ho pins s2 σ H2 x y v u Q I2 rx ry q) hm
/-- a reading of a value as a test -/
def tTest (t : TE) : TT := fun σ H Q => t σ H fun x H' => ∃ k, x = .bl k ∧ Q k H'
theorem pt_cmpR {op : CmpOp} {r : R2} (ho : OpR X (compareOp op) r) (ha : PE X a ta) (hb : PE X b tb) (hm : behindInMarks op b = false) : PT X (.Compare a [op] [b] pos) (tTest (tOp r ta tb)) := by
  intro pins s σ H Q I h
  refine wpAny_isTrue_Compare1 (thn (ha pins s σ H _ I h) fun v s1 ⟨x, H1, I1, r1, q1⟩ => thn (hb pins s1 σ H1 _ I1 q1) fun u s2 ⟨y, H2, I2, r2, q2⟩ =>
    thn (ho pins s2 σ H2 x y v u _ I2 r1 r2 q2) fun c s3 ⟨z, H3, I3, r3, k, e, q3⟩ => ?_) hm
  subst e
  cases r3
  exact wpAny_truthy_bool ⟨H3, I3, q3⟩
/-- a op1 b op2 c -/
def tChain (r r' : R2) (ta tb tc : TE) : TE := fun σ H Q => ta σ H fun x H1 => tb σ H1 fun y H2 => r x y H2 fun z H3 => ∃ k, z = .bl k ∧
  (if k = true then tc σ H3 fun w' H4 => r' y w' H4 Q else Q (.bl false) H3)
theorem pe_chain {op op' : CmpOp} {r r' : R2} (ho : OpR X (compareOp op) r) (ho' : OpR X (compareOp op') r') (ha : PE X a ta) (hb : PE X b tb) (hc : PE X c tc)
    (hm : lastMarks [op, op'] [b, c] = false := by with_unfolding_all rfl) : PE X (.Compare a [op, op'] [b, c] pos) (tChain r r' ta tb tc) := by
  intro pins s σ H Q I h
  refine Compare_chain (thn (ha pins s σ H _ I h) fun v s1 ⟨x, H1, I1, r1, q1⟩ => chain_link (thn (hb pins s1 σ H1 _ I1 q1) fun u s2 ⟨y, H2, I2, r2, q2⟩ =>
    thn (ho pins s2 σ H2 x y v u _ I2 r1 r2 q2) fun d s3 ⟨z, H3, I3, r3, k, e, q3⟩ => ?_)) hm
  subst e
  cases r3
  refine wpAny_truthy_bool ?_
  cases k with
  | false => exact ite_ff ⟨.bl false, H3, I3, rfl, q3⟩
  | true => exact ite_tt (chain_last (thn (hc pins s3 σ H3 _ I3 q3) fun w' s4 ⟨z', H4, I4, r4, q4⟩ => ho' pins s4 σ H4 y z' u w' Q I4 r2 r4 q4))
theorem pt_chain {op op' : CmpOp} {r r' : R2} (ho : OpR X (compareOp op) r) (ho' : OpR X (compareOp op') r') (ha : PE X a ta) (hb : PE X b tb) (hc : PE X c tc)
    (hm : lastMarks [op, op'] [b, c] = false := by with_unfolding_all rfl) : PT X (.Compare a [op, op'] [b, c] pos) (tTest (tChain r r' ta tb tc)) := by
  intro pins s σ H Q I h
  refine isTrue_chain (thn (ha pins s σ H _ I h) fun v s1 ⟨x, H1, I1, r1, q1⟩ => test_link (thn (hb pins s1 σ H1 _ I1 q1) fun u s2 ⟨y, H2, I2, r2, q2⟩ =>
    thn (ho pins s2 σ H2 x y v u _ I2 r1 r2 q2) fun d s3 ⟨z, H3, I3, r3, k, e, q3⟩ => ?_)) hm
  subst e
  cases r3
  refine wpAny_truthy_bool ?_
  cases k with
  | false =>
    obtain ⟨k', e', q'⟩ := q3
    cases e'
    exact ite_ff ⟨H3, I3, q'⟩
  | true =>
    refine ite_tt (test_last (thn (hc pins s3 σ H3 _ I3 q3) fun w' s4 ⟨z', H4, I4, r4, q4⟩ => thn (ho' pins s4 σ H4 y z' u w' _ I4 r2 r4 q4) fun d' s5 ⟨z2, H5, I5, r5, k2, e2, q5⟩ => ?_))
    subst e2
    cases r5
    exact wpAny_truthy_bool ⟨H5, I5, q5⟩

/-! ### truth -/
theorem line63 : (sizeLine : Nat) < 2 ^ 63 := by rw [sizeLine_eq]; decide
/-! ### strs and bytes -/
/-! ### scalar builtins, by CallR -/
theorem vals1 {x : V} {us : List Value} (r : Vals [x] us) : ∃ u, us = [u] ∧ RelV x u := by
  cases r with
  | cons r1 r2 => cases r2; exact ⟨_, rfl, r1⟩
theorem vals2 {x y : V} {us : List Value} (r : Vals [x, y] us) : ∃ u w', us = [u, w'] ∧ RelV x u ∧ RelV y w' := by
  cases r with
  | cons r1 r2 =>
    cases r2 with
    | cons r3 r4 => cases r4; exact ⟨_, _, rfl, r1, r3⟩
theorem call_ord : CallR X (.builtin "ord") (fun xs H Q => ∃ x, xs = [.str x] ∧ x.length = 1 ∧ Q (.int (x.cps.getD 0 0 : Nat)) H) := by
  intro pins s σ H xs us Q I r h
  obtain ⟨x, rfl, hz, q⟩ := h
  obtain ⟨u, rfl, t, rfl⟩ := vals1 r
  exact ord_of_one hz ⟨.int _, H, I.tok _, ⟨_, rfl⟩, q⟩
end
end L2

namespace L2
open PySem PySem.Spec PyProof.Rows

/-! ### an instance, its attributes a map -/
structure ObjM (h : Heap) (x dx C : Addr) (mA : Str → Option Value) : Prop where
  obj : h.get? x = some (PySem.W.instObj C dx)
  ns : h.Ns1 dx mA
  ne : dx ≠ x

theorem lookIn_ns {h : Heap} {dx : Addr} {mA : Str → Option Value} (n : h.Ns1 dx mA) : ∃ od, h.get? dx = some od ∧ ∀ name, PySem.W.lookIn name od = some (mA name) := by
  obtain ⟨o, es, ep, ho, hd, hk, _, hm⟩ := n
  refine ⟨o, ho, fun name => ?_⟩
  have e := hm name
  unfold nsFind findBy at e
  rw [← Array.find?_toList] at e
  unfold PySem.W.lookIn
  rw [hd]
  dsimp only
  split
  · rename_i y q
    rw [q] at e
    exact congrArg some e
  · rename_i q
    rw [q] at e
    have a : es.toList.any (·.refKey) = false := by
      rw [List.any_eq_false]
      intro y hy
      obtain ⟨z, t, hkey⟩ := hk y (Array.mem_toList_iff.mp hy)
      simp [DictEntry.refKey, hkey]
    have a' : ¬ es.toList.any (·.refKey) = true := by rw [a]; exact Bool.false_ne_true
    rw [if_neg a']
    exact congrArg some e

theorem ObjM.look {h : Heap} {x dx C : Addr} {mA : Str → Option Value} (I : ObjM h x dx C mA) : ∃ od, PySem.W.InstAt h x (PySem.W.instObj C dx) C (some od) ∧ ∀ name, PySem.W.lookIn name od = some (mA name) :=
  let ⟨od, ho, hl⟩ := lookIn_ns I.ns
  ⟨od, ⟨I.obj, rfl, rfl, ho⟩, hl⟩

section
variable {prog : Program} {w : World} {A : Around} {E : Value → Shared → Prop} {s : Shared} {K : PySem.W.Frag} {x dx C f : Addr} {mA : Str → Option Value} {name : Str} {v : Value}

theorem get_map {expr : Bool} {Q : Value → Shared → Prop} (X : K.In s.heap) (I : ObjM s.heap x dx C mA) (hg : PySem.W.plainGet K C name = true) (hh : PySem.W.hasDictIn K C = true)
    (ha : PySem.W.findIn K (.ref C) name = some none) (hv : mA name = some v) (hv' : PySem.W.handedIn v = true) (h : Q v { s with toks := s.toks + 1 }) :
    wpAny (model prog w) A (getAttr (.ref x) name expr) Q E s := by
  obtain ⟨od, J, hl⟩ := I.look
  exact PySem.W.get_value X J (PySem.W.plainGet_of hg).1 (PySem.W.findObj_own hh ha rfl (by rw [hl, hv])) hv' h

theorem get_meth {pl : Sem Bool} {Q : Value × List Value → Shared → Prop} (X : K.In s.heap) (I : ObjM s.heap x dx C mA) (hg : PySem.W.plainGet K C name = true)
    (hf : PySem.W.findIn K (.ref C) name = some (some (.ref f))) (ht : PySem.W.isFn K (.ref f) = true) (hv : mA name = none) (h : Q (.ref f, [.ref x]) s) :
    wpAny (model prog w) A (getMethod (.ref x) name pl) Q E s := by
  obtain ⟨od, J, hl⟩ := I.look
  exact PySem.W.method_fn X J (PySem.W.plainGet_of hg).1 (PySem.W.plainGet_of hg).2 hf (beq_iff_eq.mp ht) (by show (PySem.W.lookIn name od).map (·.isSome) = some false; rw [hl, hv]; rfl) h

theorem set_map {ns : List Str} {Q : Unit → Shared → Prop} (X : K.In s.heap) (I : ObjM s.heap x dx C mA)
    (hs : PySem.W.findIn K (.ref C) "__setattr__" = some (some (.builtin "object.__setattr__"))) (hp : PySem.W.plainOver K C = true) (ht : PySem.W.takerIn K C name = some none) (hh : PySem.W.hasDictIn K C = true)
    (hw : PySem.Within mA ns) (hsz : ns.length ≤ sizeLine)
    (h : ∀ h', ObjM h' x dx C (fun y => if y = name then some v else mA y) → Heap.SameBut dx s.heap h' → Q () { s with heap := h', toks := s.toks + 2 }) :
    wpAny (model prog w) A (setAttr (.ref x) name v) Q E s := by
  obtain ⟨od, J, hl⟩ := I.look
  refine PySem.W.set_plain X J hs (PySem.W.osa_open (s := { s with toks := s.toks + 1 }) (r := none) X J hp ht fun b => ?_)
  obtain ⟨cd, hc, hd'⟩ := PySem.W.any_some hh
  have hx : s.heap.get? x = some ⟨.ref C, some dx, .plain, #[]⟩ := I.obj
  refine wpAny_bind (wpAny_pure (wpAny_bind (wpAny_bind (wpAny_loadPart hx (wpAny_bind (PySem.W.Looks.here (s := { s with toks := s.toks + 1 }) (PySem.W.looks_clsIn X hc) ?_))))))
  rw [hd']
  refine wpAny_pure (a := some dx) (wpAny_bind (wpAny_pure (wpAny_bind ?_)))
  refine wpAny_nsSet1 (s := { s with toks := s.toks + 1 }) I.ns fun h' hn2 hs2 => ?_
  obtain ⟨oD, esD, epD, hoD, hdD, hcD⟩ := hn2.count (PySem.Within.cons name v hw)
  refine wpAny_bind (wpAny_lookBehind hoD (by rw [hdD]; exact pastItsLine_dict (Nat.le_trans hcD (by rw [List.length_cons]; omega))) ?_)
  exact wpAny_pure (h _ ⟨(hs2.2 _ (Ne.symm I.ne)).trans I.obj, hn2, I.ne⟩ hs2)

/-- C(..): the dict at the heap's end, the instance behind it; then its __init__ -/
theorem make_map {R : Result → Shared → Prop} {vs : List Value} {kw : List (Str × Value)} (X : K.In s.heap) (hm : PySem.W.makesIn K C = true)
    (hi : PySem.W.findIn K (.ref C) "__init__" = some (some (.ref f))) (hf : PySem.W.typeIn K (.ref f) = some (.type "function"))
    (h : codeAny (model prog w) (A.under (.builtin "type.__call__" ⟨.ref C :: vs, kw⟩)) (.call (.ref f) ⟨.ref (s.heap.objs.size + 1) :: vs, kw⟩) (PySem.W.InitBack (s.heap.objs.size + 1) R)
      { s with heap := (s.heap.push PySem.W.emptyDict).push (PySem.W.instObj C s.heap.objs.size) }) :
    codeAny (model prog w) A (.call (.ref C) ⟨vs, kw⟩) R s := by
  obtain ⟨hh, g, d, t, os⟩ := s
  exact PySem.W.make_core (PySem.W.makes_of X hm) (PySem.W.looks_findIn X hi) (fun self => PySem.W.bind_fn X self hf) (.inl rfl) h
end

/-! ### the attributes as a list of pairs -/
def putF (f : Str) (v : V) : List (Str × V) → List (Str × V)
  | [] => [(f, v)]
  | (g, x) :: r => if g = f then (g, v) :: r else (g, x) :: putF f v r
theorem lookup_putF (f g : Str) (v : V) : ∀ fs : List (Str × V), (putF f v fs).lookup g = if g = f then some v else fs.lookup g
  | [] => by
    show List.lookup g [(f, v)] = _
    by_cases h : g = f
    · have hb : (g == f) = true := beq_iff_eq.mpr h
      simp only [List.lookup, hb, if_pos h]
    · have hb : (g == f) = false := beq_eq_false_iff_ne.mpr h
      simp only [List.lookup, hb, if_neg h]
  | (k, x) :: r => by
    have ih := lookup_putF f g v r
    rw [show putF f v ((k, x) :: r) = (if k = f then (k, v) :: r else (k, x) :: putF f v r) from rfl]
    by_cases hk : k = f
    · rw [if_pos hk]
      by_cases h : g = k
      · have hb : (g == k) = true := beq_iff_eq.mpr h
        simp only [List.lookup, hb, if_pos (h.trans hk)]
      · have hb : (g == k) = false := beq_eq_false_iff_ne.mpr h
        simp only [List.lookup, hb, if_neg (fun e : g = f => h (e.trans hk.symm))]
    · rw [if_neg hk]
      by_cases h : g = k
      · have hb : (g == k) = true := beq_iff_eq.mpr h
        simp only [List.lookup, hb, if_neg (fun e : g = f => hk (h.symm.trans e))]
      · have hb : (g == k) = false := beq_eq_false_iff_ne.mpr h
        simp only [List.lookup, hb]
        exact ih
theorem keys_putF (f : Str) (v : V) : ∀ fs : List (Str × V), f ∈ (putF f v fs).map (·.1) ∧ ∀ g, g ∈ fs.map (·.1) → g ∈ (putF f v fs).map (·.1)
  | [] => ⟨by simp [putF], fun g h => by simp at h⟩
  | (k, x) :: r => by
    obtain ⟨i1, i2⟩ := keys_putF f v r
    rw [show putF f v ((k, x) :: r) = (if k = f then (k, v) :: r else (k, x) :: putF f v r) from rfl]
    by_cases hk : k = f
    · rw [if_pos hk]
      subst hk
      exact ⟨by simp, fun g h => by simpa using h⟩
    · rw [if_neg hk]
      refine ⟨?_, fun g h => ?_⟩
      · rw [List.map_cons]
        exact List.mem_cons_of_mem _ i1
      · rw [List.map_cons] at h ⊢
        rcases List.mem_cons.mp h with e | e
        · exact List.mem_cons.mpr (.inl e)
        · exact List.mem_cons_of_mem _ (i2 g e)
theorem length_putF (f : Str) (v : V) : ∀ fs : List (Str × V), (putF f v fs).length ≤ fs.length + 1
  | [] => by simp [putF]
  | (k, x) :: r => by
    have ih := length_putF f v r
    rw [show putF f v ((k, x) :: r) = (if k = f then (k, v) :: r else (k, x) :: putF f v r) from rfl]
    by_cases hk : k = f
    · rw [if_pos hk, List.length_cons, List.length_cons]; omega
    · rw [if_neg hk, List.length_cons, List.length_cons]; omega

theorem RelO.some_of {v : V} {o : Option Value} (r : RelO (some v) o) : ∃ u, o = some u ∧ RelV v u := by
  cases o with
  | none => exact (show False from r).elim
  | some u => exact ⟨u, rfl, r⟩
theorem RelO.none_of {o : Option Value} (r : RelO none o) : o = none := by
  cases o with
  | none => rfl
  | some u => exact (show False from r).elim
theorem handed_of {v : V} {u : Value} (r : RelV v u) : PySem.W.handedIn u = true := by
  cases v with
  | non => cases (show u = Value.none from r); rfl
  | bl b => cases (show u = Value.bool b from r); rfl
  | int i => obtain ⟨t, e⟩ := (show ∃ t, u = Value.int i t from r); cases e; rfl
  | str x => obtain ⟨t, e⟩ := (show ∃ t, u = Value.str x t from r); cases e; rfl
  | byt b => obtain ⟨t, e⟩ := (show ∃ t, u = Value.bytes b t from r); cases e; rfl
  | flt b => obtain ⟨t, e⟩ := (show ∃ t, u = Value.float b t from r); cases e; rfl
  | ref a => cases (show u = Value.ref a from r); rfl
  | ty n => cases (show u = Value.type n from r); rfl

section
variable {P : Program} {w : World} {H H' : Hp} {h h' : Heap} {a C dx : Addr} {fs fs' : List (Str × V)}
theorem ins_get (hok : HOk P w H h) (e : H a = some (.ins C dx fs)) : ∃ mA, ObjM h a dx C mA ∧ (∀ f, RelO (fs.lookup f) (mA f)) ∧ PySem.Within mA (fs.map (·.1)) ∧ fs.length ≤ 1000 ∧ H dx = some (.own a) := by
  obtain ⟨d, z, ne, ob, mA, n, r, q⟩ := (show ObjOk P w H h a (.ins C dx fs) from hok a _ e)
  exact ⟨mA, ⟨ob, n, ne⟩, r, q, z, d⟩
end

/-! ### what of the text a class must have -/
structure Cls (K : PySem.W.Frag) (C : Addr) : Prop where
  pg : PySem.W.plainGet K C Str.empty = true
  hd : PySem.W.hasDictIn K C = true
  po : PySem.W.plainOver K C = true
  sa : PySem.W.findIn K (.ref C) "__setattr__" = some (some (.builtin "object.__setattr__"))
theorem Cls.get {K : PySem.W.Frag} {C : Addr} (c : Cls K C) (f : Str) : PySem.W.plainGet K C f = true := c.pg
/-- no class of it has the name -/
def NoAttr (K : PySem.W.Frag) (C : Addr) (f : Str) : Prop := PySem.W.findIn K (.ref C) f = some none
theorem NoAttr.taker {K : PySem.W.Frag} {C : Addr} {f : Str} (n : NoAttr K C f) : PySem.W.takerIn K C f = some none := by
  unfold PySem.W.takerIn
  rw [show PySem.W.findIn K (.ref C) f = some none from n]
  rfl
/-- a method: a plain def of the class or of one above it -/
structure Meth (K : PySem.W.Frag) (C : Addr) (m : Str) (f : Addr) : Prop where
  at_ : PySem.W.findIn K (.ref C) m = some (some (.ref f))
  fn : PySem.W.isFn K (.ref f) = true
  kp : PySem.W.keepIn K (.ref f) = true

section
variable {X : Cx} {pins : List (Addr × Obj)} {σ : St} {H : Hp} {s : Shared} {a C dx : Addr} {fs : List (Str × V)} {f : Str} {v : V} {A : Around} {E : Value → Shared → Prop}

theorem getattr_ok {b : Bool} {Q : Value → Shared → Prop} (I : Inv X pins σ H s) (e : H a = some (.ins C dx fs)) (c : Cls X.K C) (n : NoAttr X.K C f) (l : fs.lookup f = some v)
    (h : ∀ u s', Inv X pins σ H s' → RelV v u → Q u s') : wpAny (model X.prog X.w) A (getAttr (.ref a) f b) Q E s := by
  obtain ⟨mA, O, r, _, _, _⟩ := ins_get I.hok e
  obtain ⟨u, hu, ru⟩ := RelO.some_of (v := v) (o := mA f) (by rw [← l]; exact r f)
  exact get_map I.kIn O (c.get f) c.hd n hu (handed_of ru) (h u _ (I.tok _) ru)

theorem getmeth_ok {m : Str} {g : Addr} {pl : Sem Bool} {Q : Value × List Value → Shared → Prop} (I : Inv X pins σ H s) (e : H a = some (.ins C dx fs)) (c : Cls X.K C) (k : Meth X.K C m g) (l : fs.lookup m = none)
    (h : Q (.ref g, [.ref a]) s) : wpAny (model X.prog X.w) A (getMethod (.ref a) m pl) Q E s := by
  obtain ⟨mA, O, r, _, _, _⟩ := ins_get I.hok e
  have hn : mA m = none := RelO.none_of (by rw [← l]; exact r m)
  exact get_meth I.kIn O (c.get m) k.at_ k.fn hn h

theorem setattr_ok {y : V} {u : Value} {Q : Unit → Shared → Prop} (I : Inv X pins σ H s) (e : H a = some (.ins C dx fs)) (c : Cls X.K C) (n : NoAttr X.K C f) (hl : fs.length < 1000) (ry : RelV y u)
    (h : ∀ s', Inv X pins σ (upd H a (.ins C dx (putF f y fs))) s' → Q () s') : wpAny (model X.prog X.w) A (setAttr (.ref a) f u) Q E s := by
  obtain ⟨mA, O, r, wi, _, ho⟩ := ins_get I.hok e
  have hz : (fs.map (·.1)).length ≤ sizeLine := by rw [List.length_map, sizeLine_eq]; omega
  refine set_map I.kIn O c.sa c.po n.taker c.hd wi hz fun h' O' sb => h _ ?_
  have hd : ∃ o, h'.get? dx = some o := let ⟨o, _, _, e', _⟩ := O'.ns; ⟨o, e'⟩
  refine I.write (x := a) (e := dx) (by rw [e]; exact True.intro) (.inr ho) (fun b q hb z => (sb.2 b hb).trans z) hd ?_
  refine ⟨by rw [upd_ne O.ne]; exact ho, ?_, O.ne, O'.obj, _, O'.ns, fun g => ?_, fun g hg => ?_⟩
  · have := length_putF f y fs; omega
  · show RelO ((putF f y fs).lookup g) (if g = f then some u else mA g)
    rw [lookup_putF]
    by_cases q : g = f
    · rw [if_pos q, if_pos q]; exact ry
    · rw [if_neg q, if_neg q]; exact r g
  · by_cases q : g = f
    · rw [q]; exact (keys_putF f y fs).1
    · refine (keys_putF f y fs).2 g (wi g fun z => hg ?_)
      show (if g = f then some u else mA g) = none
      rw [if_neg q]; exact z

/-- a new instance, tracked, without attributes -/
theorem Inv.made (I : Inv X pins σ H s) : Inv X pins σ (upd (upd H s.heap.objs.size (.own (s.heap.objs.size + 1))) (s.heap.objs.size + 1) (.ins C s.heap.objs.size []))
    { s with heap := (s.heap.push PySem.W.emptyDict).push (PySem.W.instObj C s.heap.objs.size) } := by
  have e1 : (s.heap.push PySem.W.emptyDict).get? s.heap.objs.size = some PySem.W.emptyDict := Heap.get?_push_size s.heap rfl
  have e2 : ((s.heap.push PySem.W.emptyDict).push (PySem.W.instObj C s.heap.objs.size)).get? (s.heap.objs.size + 1) = some (PySem.W.instObj C s.heap.objs.size) := by
    have := Heap.get?_push_size (s.heap.push PySem.W.emptyDict) (o := PySem.W.instObj C s.heap.objs.size) rfl
    rwa [Heap.size_push] at this
  have e3 : (s.heap.push PySem.W.emptyDict).Ns s.heap.objs.size (fun _ => none) := ⟨PySem.W.emptyDict, #[], _, e1, rfl, (fun e he => absurd he (by simp)), fun _ => rfl⟩
  have I1 := I.laid (a := s.heap.objs.size) (o := .own (s.heap.objs.size + 1)) (h' := s.heap.push PySem.W.emptyDict) (t' := s.toks) (fun b u q => Heap.get?_push_of_some _ q) (Nat.le_refl _) ⟨_, e1⟩
  refine I1.laid (a := s.heap.objs.size + 1) (o := .ins C s.heap.objs.size []) (t' := s.toks) (fun b u q => Heap.get?_push_of_some _ q) (Nat.le_of_eq (Heap.size_push _ _)) ?_
  have ne : s.heap.objs.size ≠ s.heap.objs.size + 1 := Nat.ne_of_lt (Nat.lt_succ_self _)
  refine ⟨by rw [upd_ne ne, upd_same], Nat.zero_le _, ne, e2, fun _ => none, (Heap.Ns1.of_empty e3).at fun o q => Heap.get?_push_of_some _ q, fun _ => True.intro, fun y hy => absurd rfl hy⟩

/-- e.f where nothing but the object is asked: through attributeBase (super) and the last hold -/
theorem attr_of {prog : Program} {w : World} {env : Env} {e : Expr} {f : Str} {pos : Pos} {s : Shared} {Q : Value → Shared → Prop} (hb : attributeBase e f env (eval e env) = eval e env)
    (h : wpAny (model prog w) A (eval e env) (fun o s₁ => wpAny (model prog w) A (getAttr o f true) Q E s₁) E s) : wpAny (model prog w) A (eval (.Attribute e f pos) env) Q E s :=
  Attribute_any_ h (by rw [arm_eval_Attribute, hb])
end

/-! ### readings and rules -/
/-- e.f, an attribute of the instance -/
def tFld (K : PySem.W.Frag) (ta : TE) (f : Str) : TE := fun σ H Q => ta σ H fun x H1 => ∃ a C dx fs v, x = .ref a ∧ H1 a = some (.ins C dx fs) ∧ Cls K C ∧ NoAttr K C f ∧ fs.lookup f = some v ∧ Q v H1
/-- e.f = value -/
def sFld (K : PySem.W.Frag) (ta tv : TE) (f : Str) : TS := fun D σ H => tv σ H fun y H1 => ta σ H1 fun x H2 => ∃ a C dx fs, x = .ref a ∧ H2 a = some (.ins C dx fs) ∧ Cls K C ∧ NoAttr K C f ∧ fs.length < 1000 ∧
  D.nx σ (upd H2 a (.ins C dx (putF f y fs)))
/-- an augmented operator on two values -/
def InOp (X : Cx) (op : Operator) (rd : V → V → Hp → VK → Prop) : Prop :=
  ∀ (pins : List (Addr × Obj)) (s : Shared) (σ : St) (H : Hp) (x y : V) (u v : Value) (Q : VK), Inv X pins σ H s → RelV x u → RelV y v → rd x y H Q → wpAny (model X.prog X.w) X.A (inplaceOp op u v) (EP X pins σ Q) X.xe s
/-- e.f op= value -/
def sFldAug (K : PySem.W.Frag) (ta tv : TE) (rd : V → V → Hp → VK → Prop) (f : Str) : TS := fun D σ H => ta σ H fun x H1 => ∃ a C dx fs v, x = .ref a ∧ H1 a = some (.ins C dx fs) ∧ Cls K C ∧ NoAttr K C f ∧ fs.lookup f = some v ∧
  tv σ H1 fun y H2 => rd v y H2 fun z H3 => ∃ dx' fs', H3 a = some (.ins C dx' fs') ∧ fs'.length < 1000 ∧ D.nx σ (upd H3 a (.ins C dx' (putF f z fs')))

section
variable {X : Cx} {o e value : Expr} {f : Str} {pos pos' tpos : Pos} {ta tv : TE}
theorem pe_fld (he : PE X e ta) (hb : attributeBase e f X.env (eval e X.env) = eval e X.env) : PE X (.Attribute e f pos) (tFld X.K ta f) := by
  intro pins s σ H Q I h
  refine attr_of hb (thn (he pins s σ H _ I h) fun u s1 ⟨x, H1, I1, rx, a, C, dx, fs, v, ex, ea, c, n, l, q⟩ => ?_)
  subst ex
  obtain rfl : u = Value.ref a := rx
  exact getattr_ok I1 ea c n l fun u' s2 I2 ru => ⟨v, H1, I2, ru, q⟩
theorem ps_fld (ha : PE X o ta) (hv : PE X value tv) (hs : swapsWith value (some (.Attribute o f pos')) pos.line X.env = pure false) : PS X (.Assign [.Attribute o f pos'] value pos) (sFld X.K ta tv f) := by
  intro pins s σ H D I h
  refine plainObj_wpAny_Assign_Attribute (thn (hv pins s σ H _ I h) fun u s1 ⟨y, H1, I1, ry, q⟩ => thn (ha pins s1 σ H1 _ I1 q) fun ov s2 ⟨x, H2, I2, rx, a, C, dx, fs, ex, ea, c, n, l, q2⟩ => ?_) hs
  subst ex
  obtain rfl : ov = Value.ref a := rx
  exact setattr_ok I2 ea c n l ry fun s3 I3 => ⟨σ, _, I3, q2⟩
theorem ps_fldaug {op : Operator} {rd : V → V → Hp → VK → Prop} (ha : PE X o ta) (hv : PE X value tv) (hop : InOp X op rd) : PS X (.AugAssign (.Attribute o f tpos) op value pos) (sFldAug X.K ta tv rd f) := by
  intro pins s σ H D I h
  refine wpAny_AugAssign_AttributeAny (thn (ha pins s σ H _ I h) fun ov s1 ⟨x, H1, I1, rx, a, C, dx, fs, v, ex, ea, c, n, l, q⟩ => ?_)
  subst ex
  obtain rfl : ov = Value.ref a := rx
  refine getattr_ok I1 ea c n l fun u s2 I2 ru => thn (hv pins s2 σ H1 _ I2 q) fun w3 s3 ⟨y, H2, I3, ry, q3⟩ => thn (hop pins s3 σ H2 v y u w3 _ I3 ru ry q3) fun w4 s4 ⟨z, H3, I4, rz, dx', fs', ea', l', q4⟩ => ?_
  exact setattr_ok I4 ea' c n l' rz fun s5 I5 => ⟨σ, _, I5, q4⟩
def rAdd : V → V → Hp → VK → Prop := fun x y H Q => ∃ i j, x = .int i ∧ y = .int j ∧ Q (.int (i + j)) H
theorem in_add : InOp X .Add rAdd := by
  rintro pins s σ H x y u v Q I rx ry ⟨i, j, rfl, rfl, q⟩
  obtain ⟨t, rfl⟩ := (show ∃ t, u = Value.int i t from rx)
  obtain ⟨t', rfl⟩ := (show ∃ t', v = Value.int j t' from ry)
  exact PyProof.Rows.iadd_int ⟨.int (i + j), H, I.tok _, ⟨_, rfl⟩, q⟩
end

/-! ### isinstance -/
section
variable {X : Cx} {pins : List (Addr × Obj)} {σ : St} {H : Hp} {s : Shared} {A : Around} {E : Value → Shared → Prop} {Q : Value → Shared → Prop} {c : Value} {b : Bool}
end
end L2

namespace L2
open PySem PySem.Spec PyProof.Rows

/-! ### room -/
structure Room (k : Nat) (A : Around) : Prop where
  hd : A.handled = none
  dp : A.depth + 3 * k + 5 < recursionLimit
  un : A.units + 16 * k + 200 < cLine
theorem Room.mono {j k : Nat} {A : Around} (r : Room k A) (h : j ≤ k) : Room j A := ⟨r.hd, by have := r.dp; omega, by have := r.un; omega⟩
theorem Room.deeper {k : Nat} {A : Around} (r : Room (k + 1) A) (env : Env) : Room k (A.deeper env) :=
  ⟨r.hd, by have := r.dp; show A.depth + 1 + 3 * k + 5 < _; omega, by have := r.un; show A.units + 3 + 16 * k + 200 < _; omega⟩
theorem Room.in1 {k : Nat} {A : Around} (r : Room (k + 1) A) : Room k A.in1 :=
  ⟨r.hd, by have := r.dp; show A.depth + 3 * k + 5 < _; omega, by have := r.un; show A.units + 1 + 16 * k + 200 < _; omega⟩
theorem make_depth {A : Around} {C : Addr} {us : List Value} {kw : List (Str × Value)} : (A.under (.builtin "type.__call__" ⟨.ref C :: us, kw⟩)).depth = A.depth + 1 := by
  first | rfl | simp [Around.under, Code.weight, Code.isCreation, Code.isGuard, Code.isCaller, Code.frames, Code.isFrame, guardIds]
theorem make_units {A : Around} {C : Addr} {us : List Value} {kw : List (Str × Value)} : (A.under (.builtin "type.__call__" ⟨.ref C :: us, kw⟩)).units = A.units + 1 := by
  first | rfl | simp [Around.under, Code.cUnits, Code.frames, Code.isFrame]
theorem Room.make {k : Nat} {A : Around} (r : Room (k + 1) A) (C : Addr) (us : List Value) (kw : List (Str × Value)) : Room k (A.under (.builtin "type.__call__" ⟨.ref C :: us, kw⟩)) :=
  ⟨r.hd, by have := r.dp; rw [make_depth]; omega, by have := r.un; rw [make_units]; omega⟩
theorem Room.depth {k : Nat} {A : Around} (r : Room k A) : A.depth < recursionLimit := by have := r.dp; omega
theorem Room.units {k : Nat} {A : Around} (r : Room k A) : A.units + 64 < cLine := by have := r.un; omega
/-! ### argument lists and displays -/
def tNil : TA := fun _ H Q => Q [] H
def tCons (ta : TE) (tr : TA) : TA := fun σ H Q => ta σ H fun x H1 => tr σ H1 fun xs H2 => Q (x :: xs) H2
section
variable {X : Cx} {e : Expr} {es : List Expr} {te : TE} {t : TA} {pos : Pos}
theorem pa_nil : PA X [] tNil := fun _ _ _ _ H Q I h => Calls.spliced_nil ⟨[], H, I, .nil, h⟩
theorem pa_cons (ha : PE X e te) (hr : PA X es t) (hs : starEach (e :: es) X.env = (false, eval e X.env) :: starEach es X.env := by rfl) : PA X (e :: es) (tCons te t) := by
  intro pos pins s σ H Q I h
  rw [hs]
  show wpAny _ _ (spliced ((false, eval e X.env) :: backTo pos (starEach es X.env))) _ _ s
  refine Calls.spliced_cons (thn (ha pins s σ H _ I h) fun u s1 ⟨x, H1, I1, r1, q1⟩ => ?_)
  exact thn (hr pos pins s1 σ H1 _ I1 q1) fun us s2 ⟨xs, H2, I2, r2, q2⟩ => ⟨x :: xs, H2, I2, .cons r1 r2, q2⟩

def tLst (t : TA) : TE := fun σ H Q => t σ H fun xs H1 => xs.length ≤ sizeLine ∧ ∀ p, H1 p = none → Q (.ref p) (upd H1 p (.lst xs))
theorem pe_lst (h : PA X es t) : PE X (.List es pos) (tLst t) := by
  intro pins s σ H Q I hq
  refine wpAny_List_spliced (thn (h pos pins s σ H _ I hq) fun us s1 ⟨xs, H1, I1, r, z, q⟩ => ⟨by rw [← r.length]; exact z, ?_⟩)
  have hf : H1 s1.heap.objs.size = none := I1.hok.fresh (Nat.le_refl _)
  refine ⟨.ref s1.heap.objs.size, upd H1 s1.heap.objs.size (.lst xs), I1.laid (t' := s1.toks) (fun b u e => Heap.get?_push_of_some _ e) (Nat.le_refl _) ?_, rfl, q _ hf⟩
  exact ⟨z, us, 0, r, Heap.get?_push_size _ rfl⟩
end

/-! ### what a def promises -/
/-- a def's promise: the bound arguments in the parameters' order, the heap, the wanted end, the wanted exception -/
abbrev Sp := List V → Hp → VK → XK → Prop
/-- how an exception lies behind a call (file 08 gives it): the callers' frames, abstract heap and state ahead of the call, the wish, the exception, the state -/
abbrev CXT := List Env → Hp → Shared → XK → Value → Shared → Prop

/-- the state at a call -/
structure Env0 (P : Program) (w : World) (K : PySem.W.Frag) (mg : Str → Option Value) (base : Heap) (A : Around) (outer : List Env) (s : Shared) (H : Hp) : Prop where
  frames : A.frames = some outer
  mod : Mod K mg base
  bs : ∀ b o, base.get? b = some o → s.heap.get? b = some o ∧ H b = none
  bsz : base.objs.size ≤ s.heap.objs.size
  funs : s.heap.FunFrames base outer
  frf : ∀ b ∈ frs outer, H b = none
  hok : HOk P w H s.heap
  bare : AllBare s.gens
/-- a call's end -/
def CE (outer : List Env) (P : Program) (w : World) (H : Hp) (s : Shared) (Q : VK) (u : Value) (s' : Shared) : Prop :=
  ∃ v H', s'.os = s.os ∧ AllBare s'.gens ∧ Un (frs outer) [] H H' s.heap s'.heap ∧ HOk P w H' s'.heap ∧ RelV v u ∧ Q v H'
def CR (CX : CXT) (outer : List Env) (P : Program) (w : World) (H : Hp) (s : Shared) (Q : VK) (E : XK) (r : Result) (s' : Shared) : Prop :=
  match r with
  | .ok (.ret u) => CE outer P w H s Q u s'
  | .ok _ => False
  | .error e => CX outer H s E e s'
structure FnOk (P : Program) (w : World) (K : PySem.W.Frag) (mg : Str → Option Value) (base : Heap) (CX : CXT) (k : Nat) (f : Addr) (fd : FuncData) (ps : List Str) (sp : Sp) : Prop where
  len : ∀ vs H Q E, sp vs H Q E → vs.length = ps.length
  run : ∀ (A : Around) (outer : List Env) (s : Shared) (H : Hp) (args : Args) (us : List Value) (vs : List V) (Q : VK) (E : XK), Room k A → Env0 P w K mg base A outer s H → BindsTo s fd args (ps.zip us) → Vals vs us → sp vs H Q E →
    codeAny (model P w) A (.call (.ref f) args) (CR CX outer P w H s Q E) s
theorem FnOk.mono {P : Program} {w : World} {K : PySem.W.Frag} {mg : Str → Option Value} {base : Heap} {CX : CXT} {j k : Nat} {f : Addr} {fd : FuncData} {ps : List Str} {sp : Sp} (F : FnOk P w K mg base CX j f fd ps sp) (h : j ≤ k) :
    FnOk P w K mg base CX k f fd ps sp := ⟨F.len, fun A outer s H args us vs Q E hr => F.run A outer s H args us vs Q E (hr.mono h)⟩
theorem Env0.make {P : Program} {w : World} {K : PySem.W.Frag} {mg : Str → Option Value} {base : Heap} {A : Around} {outer : List Env} {s : Shared} {H : Hp} (e : Env0 P w K mg base A outer s H) (C : Addr) (us : List Value) (kw : List (Str × Value)) :
    Env0 P w K mg base (A.under (.builtin "type.__call__" ⟨.ref C :: us, kw⟩)) outer s H := ⟨by first | exact e.frames | (simpa [Around.under, Code.envs, Code.isFrame, pushEnvs] using e.frames), e.mod, e.bs, e.bsz, e.funs, e.frf, e.hok, e.bare⟩
theorem Env0.in1 {P : Program} {w : World} {K : PySem.W.Frag} {mg : Str → Option Value} {base : Heap} {A : Around} {outer : List Env} {s : Shared} {H : Hp} (e : Env0 P w K mg base A outer s H) :
    Env0 P w K mg base A.in1 outer s H := ⟨e.frames, e.mod, e.bs, e.bsz, e.funs, e.frf, e.hok, e.bare⟩

section
variable {X : Cx} {pins : List (Addr × Obj)} {σ : St} {H : Hp} {s s' : Shared}
/-- from a body: what a callee wants -/
theorem Inv.env0 (I : Inv X pins σ H s) : Env0 X.prog X.w X.K X.mg X.base X.A X.stack s H :=
  ⟨I.ok.frames, I.ok.mod, I.bs, Nat.le_trans I.ok.bsz I.sz, I.stack, I.stkFree, I.hok, I.bare⟩
/-- behind a call -/
theorem Inv.after {Q : VK} {u : Value} (I : Inv X pins σ H s) (h : CE X.stack X.prog X.w H s Q u s') : EP X pins σ Q u s' := by
  obtain ⟨v, H', os, bare, un, hok, r, q⟩ := h
  obtain ⟨hh, g, d, t, os'⟩ := s'
  obtain rfl : os' = s.os := os
  exact ⟨v, H', I.call (h' := hh) (g' := g) (d' := d) (t' := t) (ch := []) un hok bare (fun b z => absurd z (by simp)), r, q⟩
end

/-! ### calls -/
/-- f(..): the written arguments, then the defaults dvs; E: what is wanted of an exception -/
def tCall (sp : Sp) (dvs : List V) (E : XK) (t : TA) : TE := fun σ H Q => t σ H fun vs H1 => sp (vs ++ dvs) H1 Q E
/-- o.m(..) of an instance of the class at C -/
def tMeth (C : Addr) (m : Str) (sp : Sp) (dvs : List V) (E : XK) (ta : TE) (t : TA) : TE := fun σ H Q => ta σ H fun x H1 => ∃ a dx fs, x = .ref a ∧ H1 a = some (.ins C dx fs) ∧ fs.lookup m = none ∧
  t σ H1 fun vs H2 => sp (x :: (vs ++ dvs)) H2 Q E
/-- C(..): a new instance and its dict, then __init__ -/
def tMake (C : Addr) (sp : Sp) (dvs : List V) (E : XK) (t : TA) : TE := fun σ H Q => t σ H fun vs H1 => ∀ x dx, H1 x = none → H1 dx = none → dx ≠ x →
  sp (.ref x :: (vs ++ dvs)) (upd (upd H1 dx (.own x)) x (.ins C dx [])) (fun v H2 => v = .non ∧ Q (.ref x) H2) E

/-- how the parameters are bound: us the positional arguments, kw the keywords' values by name, ds the defaults that fill up -/
def Binds (K : PySem.W.Frag) (fd : FuncData) (ps : List Str) (ds : List Value) : Prop :=
  ∀ (s : Shared) (us : List Value), K.In s.heap → (us ++ ds).length = ps.length → BindsTo s fd ⟨us, []⟩ (ps.zip (us ++ ds))
/-- every parameter is given -/
theorem Binds.all {K : PySem.W.Frag} {fd : FuncData} {ps : List Str} (h : ∀ us : List Value, us.length = ps.length → bindArgs fd ⟨us, []⟩ = pure (ps.zip us)) : Binds K fd ps [] := fun s us _ hl => by
  rw [List.append_nil] at hl ⊢
  exact .of_eq (h us hl)

/-- an exception of a callee reaches what this body wants of exceptions -/
def Passes (CX : CXT) (X : Cx) (E : XK) : Prop := ∀ (pins : List (Addr × Obj)) (σ : St) (H : Hp) (s : Shared) (e : Value) (s' : Shared), Inv X pins σ H s → CX X.stack H s E e s' → X.xe e s'

section
variable {X : Cx} {CX : CXT} {k : Nat} {f C : Addr} {fd : FuncData} {ps : List Str} {sp : Sp} {dvs : List V} {ds : List Value} {E : XK} {x m : Str} {p pos apos : Pos} {e o : Expr} {es : List Expr} {ta : TE} {t : TA}

/-- the callee runs -/
theorem run_fn {pins : List (Addr × Obj)} {σ : St} {H : Hp} {s : Shared} {Q : VK} {us : List Value} {vs : List V} (F : FnOk X.prog X.w X.K X.mg X.base CX k f fd ps sp) (hr : Room k X.A) (hb : Binds X.K fd ps ds) (hd : Vals dvs ds) (hx : Passes CX X E)
    (I : Inv X pins σ H s) (r : Vals vs us) (h : sp (vs ++ dvs) H Q E) : wpAny (model X.prog X.w) X.A (call (.ref f) us) (EP X pins σ Q) X.xe s := by
  have r2 : Vals (vs ++ dvs) (us ++ ds) := r.append hd
  have hl : (us ++ ds).length = ps.length := by rw [← r2.length]; exact F.len _ _ _ _ h
  refine wpAny_call (codeAny_mono (F.run X.A X.stack s H ⟨us, []⟩ (us ++ ds) (vs ++ dvs) Q E hr I.env0 (hb s us I.kIn hl) r2 h) fun r s' hq => ?_)
  cases r with
  | error e => exact hx pins σ H s e s' I hq
  | ok fl =>
    cases fl with
    | ret u => exact I.after hq
    | next => exact False.elim hq
    | brk => exact False.elim hq
    | cont => exact False.elim hq

theorem pe_call (F : FnOk X.prog X.w X.K X.mg X.base CX k f fd ps sp) (hr : Room k X.A) (hg : Gl X x) (hm : X.mg x = some (.ref f)) (hk : PySem.W.keepIn X.K (.ref f) = true) (hb : Binds X.K fd ps ds) (hd : Vals dvs ds) (hx : Passes CX X E)
    (ha : PA X (e :: es) t) (hdb : (x == ("__debug__" : Str)) = false := by decide) (he : starEach (e :: es) X.env = (false, eval e X.env) :: starEach es X.env := by rfl) (hpl : (backTo pos (starEach es X.env)).any (·.1) = false := by rfl) :
    PE X (.Call (.Name x p) (e :: es) [] pos) (tCall sp dvs E t) := by
  intro pins s σ H Q I h
  refine wpAny_Call_Name_kw (ld_glob I hg hm ?_ hdb)
  refine PySem.W.callWith_K (h₀ := X.base) I.ok.mod.kin hk (thn (ha pos pins s σ H _ I h) fun us s1 ⟨vs, H1, I1, r, q⟩ => ⟨I1.kIn, ?_⟩) he hpl
  exact run_fn F hr hb hd hx I1 r q
/-- o.m(e, ..) -/
theorem pe_meth {pl : Sem Bool} (he : PE X o ta) (c : Cls X.K C) (hm : Meth X.K C m f) (F : FnOk X.prog X.w X.K X.mg X.base CX k f fd ps sp) (hr : Room k X.A) (hb : Binds X.K fd ps ds) (hd : Vals dvs ds) (hx : Passes CX X E) (ha : PA X (e :: es) t)
    (hst : starEach (e :: es) X.env = (false, eval e X.env) :: starEach es X.env := by rfl) (hpl : (backTo pos (starEach es X.env)).any (·.1) = false := by rfl)
    (ht : eval (.Call (.Attribute o m apos) (e :: es) [] pos) X.env = (do
      let ov ← eval o X.env
      standAt apos.atName
      let (f, first) ← holding [ov] (getMethod ov m pl)
      callWith pos f first (backTo pos (starEach (e :: es) X.env)) (backToKw pos (keywordEach [] X.env))) := by rfl) :
    PE X (.Call (.Attribute o m apos) (e :: es) [] pos) (tMeth C m sp dvs E ta t) := by
  intro pins s σ H Q I h
  refine PySem.W.methodCall_KW (pl := pl) (thn (he pins s σ H _ I h) fun u s1 ⟨x, H1, I1, rx, a, dx, fs, ex, ea, l, q⟩ => ?_) ht
  subst ex
  obtain rfl : u = Value.ref a := rx
  refine getmeth_ok I1 ea c hm l ?_
  refine PySem.W.callWith_K (first := [.ref a]) (h₀ := X.base) I.ok.mod.kin hm.kp (thn (ha pos pins s1 σ H1 _ I1 q) fun us s2 ⟨vs, H2, I2, r, q2⟩ => ⟨I2.kIn, ?_⟩) hst hpl
  exact run_fn (us := .ref a :: us) (vs := .ref a :: vs) F hr hb hd hx I2 (.cons rfl r) q2
/-- o.m() -/
theorem pe_meth0 {pl : Sem Bool} (he : PE X o ta) (c : Cls X.K C) (hm : Meth X.K C m f) (F : FnOk X.prog X.w X.K X.mg X.base CX k f fd ps sp) (hr : Room k X.A) (hb : Binds X.K fd ps ds) (hd : Vals dvs ds) (hx : Passes CX X E)
    (ht : eval (.Call (.Attribute o m apos) [] [] pos) X.env = (do
      let ov ← eval o X.env
      standAt apos.atName
      let (f, first) ← holding [ov] (getMethod ov m pl)
      callWith pos f first (backTo pos (starEach [] X.env)) (backToKw pos (keywordEach [] X.env))) := by rfl) :
    PE X (.Call (.Attribute o m apos) [] [] pos) (tMeth C m sp dvs E ta tNil) := by
  intro pins s σ H Q I h
  refine PySem.W.methodCall_KW (pl := pl) (thn (he pins s σ H _ I h) fun u s1 ⟨x, H1, I1, rx, a, dx, fs, ex, ea, l, q⟩ => ?_) ht
  subst ex
  obtain rfl : u = Value.ref a := rx
  refine getmeth_ok I1 ea c hm l ?_
  exact PySem.W.callWith_K0 (first := [.ref a]) I1.kIn hm.kp (run_fn (us := [.ref a]) (vs := [.ref a]) F hr hb hd hx I1 (.cons rfl .nil) q)

/-- what a class must have to be made -/
structure Mk (K : PySem.W.Frag) (C f : Addr) : Prop where
  makes : PySem.W.makesIn K C = true
  init : PySem.W.findIn K (.ref C) "__init__" = some (some (.ref f))
  fn : PySem.W.isFn K (.ref f) = true
  kp : PySem.W.keepIn K (.ref C) = true

theorem run_make {pins : List (Addr × Obj)} {σ : St} {H : Hp} {s : Shared} {Q : VK} {us : List Value} {vs : List V} (M : Mk X.K C f) (F : FnOk X.prog X.w X.K X.mg X.base CX k f fd ps sp) (hr : Room (k + 1) X.A) (hb : Binds X.K fd ps ds) (hd : Vals dvs ds)
    (hx : Passes CX X E) (I : Inv X pins σ H s) (r : Vals vs us)
    (h : ∀ x dx, H x = none → H dx = none → dx ≠ x → sp (.ref x :: (vs ++ dvs)) (upd (upd H dx (.own x)) x (.ins C dx [])) (fun v H2 => v = .non ∧ Q (.ref x) H2) E) :
    wpAny (model X.prog X.w) X.A (call (.ref C) us) (EP X pins σ Q) X.xe s := by
  have hq := h (s.heap.objs.size + 1) s.heap.objs.size (I.hok.fresh (Nat.le_succ _)) (I.hok.fresh (Nat.le_refl _)) (Nat.ne_of_lt (Nat.lt_succ_self _))
  have I2 := Inv.made (C := C) I
  have r2 : Vals (V.ref (s.heap.objs.size + 1) :: (vs ++ dvs)) (Value.ref (s.heap.objs.size + 1) :: (us ++ ds)) := .cons rfl (r.append hd)
  have hl : (Value.ref (s.heap.objs.size + 1) :: us ++ ds).length = ps.length := by
    have e := r2.length
    rw [F.len _ _ _ _ hq] at e
    exact e.symm
  refine wpAny_call (make_map (f := f) I.kIn M.makes M.init (beq_iff_eq.mp M.fn) (codeAny_mono (F.run _ X.stack _ _ ⟨Value.ref (s.heap.objs.size + 1) :: us, []⟩ (Value.ref (s.heap.objs.size + 1) :: (us ++ ds)) _ _ E (hr.make C us [])
    (I2.env0.make C us []) (hb _ (Value.ref (s.heap.objs.size + 1) :: us) I2.kIn hl) r2 hq) fun r s' hq' => ?_))
  cases r with
  | error e => exact hx pins σ _ _ e s' I2 hq'
  | ok fl =>
    cases fl with
    | ret u =>
      obtain ⟨v, H', I3, rv, ev, q3⟩ := I2.after hq'
      subst ev
      exact ⟨rv, ⟨V.ref (s.heap.objs.size + 1), H', I3, rfl, q3⟩⟩
    | next => exact False.elim hq'
    | brk => exact False.elim hq'
    | cont => exact False.elim hq'
theorem pe_make (M : Mk X.K C f) (F : FnOk X.prog X.w X.K X.mg X.base CX k f fd ps sp) (hr : Room (k + 1) X.A) (hg : Gl X x) (hm : X.mg x = some (.ref C)) (hb : Binds X.K fd ps ds) (hd : Vals dvs ds) (hx : Passes CX X E)
    (ha : PA X (e :: es) t) (hdb : (x == ("__debug__" : Str)) = false := by decide) (he : starEach (e :: es) X.env = (false, eval e X.env) :: starEach es X.env := by rfl) (hpl : (backTo pos (starEach es X.env)).any (·.1) = false := by rfl) :
    PE X (.Call (.Name x p) (e :: es) [] pos) (tMake C sp dvs E t) := by
  intro pins s σ H Q I h
  refine wpAny_Call_Name_kw (ld_glob I hg hm ?_ hdb)
  refine PySem.W.callWith_K (h₀ := X.base) I.ok.mod.kin M.kp (thn (ha pos pins s σ H _ I h) fun us s1 ⟨vs, H1, I1, r, q⟩ => ⟨I1.kIn, ?_⟩) he hpl
  exact run_make M F hr hb hd hx I1 r q
theorem pe_make0 (M : Mk X.K C f) (F : FnOk X.prog X.w X.K X.mg X.base CX k f fd ps sp) (hr : Room (k + 1) X.A) (hg : Gl X x) (hm : X.mg x = some (.ref C)) (hb : Binds X.K fd ps ds) (hd : Vals dvs ds) (hx : Passes CX X E)
    (hdb : (x == ("__debug__" : Str)) = false := by decide) : PE X (.Call (.Name x p) [] [] pos) (tMake C sp dvs E tNil) := by
  intro pins s σ H Q I h
  refine wpAny_Call_Name_kw (ld_glob I hg hm ?_ hdb)
  exact PySem.W.callWith_K0 I.kIn M.kp (run_make (us := []) M F hr hb hd hx I .nil h)
end

/-! ### keywords -/
section
variable {X : Cx} {CX : CXT} {k : Nat} {f C : Addr} {fd : FuncData} {ps ks : List Str} {sp : Sp} {E : XK} {x m : Str} {p pos apos kpos : Pos} {e o : Expr} {es : List Expr} {kws : List Keyword} {te ta : TE} {t tk : TA} {nm : Option Str}
variable {g : List Value → List Value → List Value} {gV : List V → List V → List V}
end

/-! ### a def's body keeps its promise -/
/-- names: the parameters first -/
structure FnScope (N P : List Str) (sc : Scope) : Prop where
  kind : sc.kind = .function
  co : sc.isCoroutine = false
  gen : sc.isGenerator = false
  nd : N.Nodup
  pre : N.take P.length = P
  par : ∀ x ∈ P, sc.names.lookup x = some .local ∨ sc.names.lookup x = some .cell
  nofree : ∀ y ∈ sc.names, y.2 ≠ .free

theorem bindL_out {kindOf : Str → Option NameKind} {x : Str} : ∀ {binds : List (Str × Value)} {m : Str → Option Value}, (∀ v, (x, v) ∉ binds) → bindL kindOf binds m x = m x
  | [], _, _ => rfl
  | (n, v) :: r, m, h => by
    unfold bindL
    rw [bindL_out fun w hw => h w (List.mem_cons_of_mem _ hw)]
    split
    · have : x ≠ n := by rintro rfl; exact h v List.mem_cons_self
      simp [this]
    · rfl
theorem bindC_out {kindOf : Str → Option NameKind} {x : Str} : ∀ {binds : List (Str × Value)} {m : Str → Option Value}, (∀ v, (x, v) ∉ binds) → bindC kindOf binds m x = m x
  | [], _, _ => rfl
  | (n, v) :: r, m, h => by
    unfold bindC
    rw [bindC_out fun w hw => h w (List.mem_cons_of_mem _ hw)]
    split
    · rfl
    · have : x ≠ n := by rintro rfl; exact h v List.mem_cons_self
      simp [this]
theorem bindL_get {kindOf : Str → Option NameKind} {x : Str} {v : Value} : ∀ {P : List Str} {vs : List Value} {i : Nat} {m : Str → Option Value}, P.Nodup → P[i]? = some x → vs[i]? = some v → kindOf x = some .local →
    bindL kindOf (P.zip vs) m x = some v
  | [], _, _, _, _, h, _, _ => by simp at h
  | _ :: _, [], _, _, _, _, h, _ => by simp at h
  | p :: P, w :: vs, 0, m, nd, h1, h2, hk => by
    simp at h1 h2; subst h1; subst h2
    show bindL kindOf ((p, w) :: P.zip vs) m p = _
    unfold bindL
    rw [bindL_out fun v hv => (List.nodup_cons.mp nd).1 (List.of_mem_zip hv).1, if_pos hk]
    simp
  | p :: P, w :: vs, i + 1, m, nd, h1, h2, hk => by
    show bindL kindOf ((p, w) :: P.zip vs) m x = _
    unfold bindL
    exact bindL_get (i := i) (List.nodup_cons.mp nd).2 (by simpa using h1) (by simpa using h2) hk
theorem bindC_get {kindOf : Str → Option NameKind} {x : Str} {v : Value} : ∀ {P : List Str} {vs : List Value} {i : Nat} {m : Str → Option Value}, P.Nodup → P[i]? = some x → vs[i]? = some v → kindOf x ≠ some .local →
    bindC kindOf (P.zip vs) m x = some v
  | [], _, _, _, _, h, _, _ => by simp at h
  | _ :: _, [], _, _, _, _, h, _ => by simp at h
  | p :: P, w :: vs, 0, m, nd, h1, h2, hk => by
    simp at h1 h2; subst h1; subst h2
    show bindC kindOf ((p, w) :: P.zip vs) m p = _
    unfold bindC
    rw [bindC_out fun v hv => (List.nodup_cons.mp nd).1 (List.of_mem_zip hv).1, if_neg hk]
    simp
  | p :: P, w :: vs, i + 1, m, nd, h1, h2, hk => by
    show bindC kindOf ((p, w) :: P.zip vs) m x = _
    unfold bindC
    exact bindC_get (i := i) (List.nodup_cons.mp nd).2 (by simpa using h1) (by simpa using h2) hk

/-- the names' values at the entry -/
def start (N : List Str) (vs : List V) : St := vs.map some ++ List.replicate (N.length - vs.length) none

/-- the context of a def's body, at its entry; an exception leaves the frame, then lies as CX says -/
def cxOf (CX : CXT) (P : Program) (w : World) (K : PySem.W.Frag) (mg : Str → Option Value) (base : Heap) (N : List Str) (qual : Str) (scope : Scope) (f : Addr) (cd : Value) (A : Around) (outer : List Env) (s : Shared) (H : Hp) (E : XK) : Cx where
  prog := P
  w := w
  K := K
  mg := mg
  base := base
  A := A.deeper (envOfC qual scope s.heap.objs.size f cd)
  N := N
  s_0 := s
  H_0 := H
  env := envOfC qual scope s.heap.objs.size f cd
  outer := outer
  stack := envOfC qual scope s.heap.objs.size f cd :: outer
  ex := []
  calm := true
  fn := fun _ => true
  pn := []
  xe := fun e s' => wpAny (model P w) (A.deeper (envOfC qual scope s.heap.objs.size f cd)) (leaving (envOfC qual scope s.heap.objs.size f cd) e) (fun _ s'' => CX outer H s E e s'') (fun e' s'' => CX outer H s E e' s'') s'

theorem cell_has {sc : Scope} {n : Nat} {x : Str} (h : sc.names.lookup x = some .cell) : ∃ c, (cellsFrom n sc.names []).lookup x = some c := by
  have q := PySem.W.cellsFrom_some sc.names n [] (.inl h)
  exact Option.isSome_iff_exists.mp q

theorem inv_start {CX : CXT} {P : Program} {w : World} {K : PySem.W.Frag} {mg : Str → Option Value} {base : Heap} {N ps : List Str} {qual : Str} {scope : Scope} {f : Addr} {cd : Value} {A : Around} {outer : List Env} {s s1 : Shared} {H : Hp} {E : XK} {us : List Value} {vs : List V}
    (S : FnScope N ps scope) (hd : A.handled = none) (e0 : Env0 P w K mg base A outer s H) (hl : vs.length = ps.length) (r : Vals vs us)
    (x : InCallC s s.heap.objs.size (bindL (envOfC qual scope s.heap.objs.size f cd).kindOf (ps.zip us) fun _ => none) (cellsFrom (s.heap.objs.size + 1) scope.names []) (bindC (envOfC qual scope s.heap.objs.size f cd).kindOf (ps.zip us) fun _ => none) s1) :
    Inv (cxOf CX P w K mg base N qual scope f cd A outer s H E) [] (start N vs) H s1 := by
  have hpl : ps.length ≤ N.length := by have := congrArg List.length S.pre; rw [List.length_take] at this; omega
  obtain ⟨h1, tk, rfl, hk⟩ := x.done
  have noA : ∀ b : Addr, b ∉ (cxOf CX P w K mg base N qual scope f cd A outer s H E).ex := fun b z => absurd (show b ∈ ([] : List Addr) from z) (by simp)
  refine ⟨⟨e0.mod, S.kind, rfl, rfl, Nat.le_refl _, fun y z c h1 h2 => ?_, fun y hy => ?_, fun y c _ h => ?_, fun _ => hd, Around.frames_deeper e0.frames, .inr ⟨rfl, rfl⟩, fun b z => absurd z (noA b), e0.bs, e0.bsz, fun b _ _ => noA b, fun b z => absurd z (noA b), e0.funs, e0.frf⟩,
    rfl, e0.bare, Un.kept hk, ⟨_, x.toInCall.ns, fun i y v h1 h2 h3 => ?_⟩, fun y c h => ⟨_, x.cell y c h⟩, e0.hok.fresh (Nat.le_refl _), fun y c h => ?_, fun p hp => absurd (show p ∈ ([] : List (Addr × Obj)) from hp) (by simp), e0.hok.kept hk, ?_⟩
  · exact name_of_addr x.apart (PySem.mem_of_lookup h1) (PySem.mem_of_lookup h2)
  · have hy : scope.names.lookup y = some .cell ∨ scope.names.lookup y = some .free := hy
    rcases hy with hy | hy
    · exact cell_has hy
    · exact absurd rfl (S.nofree _ (PySem.mem_of_lookup hy))
  · exact Nat.le_of_lt (x.above y c (PySem.mem_of_lookup h))
  · have hi : i < vs.length := by
      unfold start at h2
      by_cases hi : i < vs.length
      · exact hi
      · rw [List.getElem?_append_right (by simpa using hi)] at h2
        rw [List.getElem?_replicate] at h2
        split at h2 <;> cases h2
    have ha : vs[i]? = some v := by
      unfold start at h2
      rw [List.getElem?_append_left (by simpa using hi), List.getElem?_map] at h2
      cases e : vs[i]? with
      | none => rw [e] at h2; cases h2
      | some a => rw [e] at h2; cases h2; rfl
    obtain ⟨u, hu, rv⟩ := r.get ha
    have hp : ps[i]? = some y := by
      rw [← S.pre, List.getElem?_take_of_lt (by omega)]; exact h1
    have ndP : ps.Nodup := by rw [← S.pre]; exact S.nd.sublist (List.take_sublist _ _)
    refine ⟨u, rv, ?_⟩
    rcases S.par y (List.mem_of_getElem? hp) with k | k
    · exact .inl ⟨k, bindL_get ndP hp hu k⟩
    · obtain ⟨c, e⟩ := cell_has (n := s.heap.objs.size + 1) k
      refine .inr ⟨.inl k, c, e, ?_⟩
      have q := x.cell y c e
      rw [bindC_get ndP hp hu (by show scope.names.lookup y ≠ _; rw [k]; decide)] at q
      exact q
  · exact e0.hok.fresh (Nat.le_of_lt (x.above y c (PySem.mem_of_lookup h)))
  · unfold start
    show _ = N.length
    rw [List.length_append, List.length_map, List.length_replicate]
    omega

/-- THE RULE: a def (or a method) of the text, by its body. The body's reading t is chosen for each entry; it is run at the parameters' values -/
theorem fn_of {CX : CXT} {P : Program} {w : World} {K : PySem.W.Frag} {mg : Str → Option Value} {base : Heap} {k : Nat} {f : Addr} {name qual : Str} {params : Arguments} {body : List Stmt} {scope : Scope} {dV kV doc pm cdv ct oc : Value} {an od : Option Addr}
    {osl : Array (Option Value)} {N ps : List Str} {sp : Sp} (lk : K.lookup f = some ⟨oc, od, .func (PySem.W.fnOf name qual params body scope dV kV doc pm an cdv ct), osl⟩) (hcd : PySem.W.codeIn K cdv qual = true) (S : FnScope N ps scope)
    (len : ∀ vs H Q E, sp vs H Q E → vs.length = ps.length)
    (hbody : ∀ (A : Around) (outer : List Env) (s : Shared) (H : Hp) (vs : List V) (Q : VK) (E : XK), Room k (A.deeper (envOfC qual scope s.heap.objs.size f cdv)) → sp vs H Q E →
      ∃ t, PSs (cxOf CX P w K mg base N qual scope f cdv A outer s H E) body t ∧ t { nx := fun _ H' => Q .non H', rt := Q } (start N vs) H) :
    FnOk P w K mg base CX (k + 1) f (PySem.W.fnOf name qual params body scope dV kV doc pm an cdv ct) ps sp := by
  refine ⟨len, fun A outer s H args us vs Q E hr e0 hb r hsp => ?_⟩
  have hl := len _ _ _ _ hsp
  have KX : K.In s.heap := e0.mod.kin.keeps fun b o e => (e0.bs b o e).1
  have lim : s.heap.NoLimit := e0.mod.nolimit.keeps fun b o e => (e0.bs b o e).1
  have hkind : ∀ y ∈ ps.zip us, scope.names.lookup y.1 = some .local ∨ (scope.names.lookup y.1 = some .cell ∧ ((cellsFrom (s.heap.objs.size + 1) scope.names []).lookup y.1).isSome = true) := fun ⟨n, v⟩ hy => by
    rcases S.par n (List.of_mem_zip hy).1 with q | q
    · exact .inl q
    · exact .inr ⟨q, PySem.W.cellsFrom_some _ _ _ (.inl q)⟩
  refine codeAny_call_function hr.depth (KX _ _ lk) rfl S.co S.gen rfl (PySem.W.codeRec_of KX hcd) (hb _ _ _ _ ?_)
  refine wpAny_newFunctionEnv_cells S.kind hkind fun env he s1 x => ?_
  subst he
  refine ⟨lim.keeps x.toInCall.keep, codeAny_func ?_⟩
  obtain ⟨t, ht, hq⟩ := hbody A outer s H vs Q E (hr.deeper _) hsp
  have I : Inv (cxOf CX P w K mg base N qual scope f cdv A outer s H E) [] (start N vs) H s1 := inv_start S hr.hd e0 hl r x
  refine wpAny_mono (ht [] s1 (start N vs) H _ I hq) (fun fl s' hs => ?_) fun e s' hs => hs
  have fin : ∀ {σ' : St} {H' : Hp} {v : V} {u : Value}, Inv (cxOf CX P w K mg base N qual scope f cdv A outer s H E) [] σ' H' s' → RelV v u → Q v H' → CE outer P w H s Q u s' :=
    fun {σ' H' v u} J rv q => ⟨v, H', J.os, J.bare, J.base, J.hok, rv, q⟩
  cases fl with
  | ret u =>
    obtain ⟨v, σ', H', J, rv, q⟩ := hs
    exact fin J rv q
  | next =>
    obtain ⟨σ', H', J, q⟩ := hs
    exact fin (v := V.non) (u := Value.none) J rfl q
  | brk =>
    obtain ⟨_, _, _, q⟩ := hs
    exact False.elim q
  | cont =>
    obtain ⟨_, _, _, q⟩ := hs
    exact False.elim q
end L2

namespace L2
open PySem PySem.Spec PyProof.Rows
section
variable {X : Cx} {x : Str} {p pos : Pos} {e : Expr} {es : List Expr} {t : TA} {id T : String} {r : List V → Hp → VK → Prop}

def tCB (r : List V → Hp → VK → Prop) (t : TA) : TE := fun σ H Q => t σ H fun vs H1 => r vs H1 Q
/-- f(e, ..), f a built-in function -/
theorem pe_callB (hc : CallR X (.builtin id) r) (hg : Gl X x) (hm : X.mg x = none) (hv : bootBuiltins x = some (.builtin id)) (ha : PA X (e :: es) t) (hn : x ≠ "__name__" := by decide) (hdb : (x == ("__debug__" : Str)) = false := by decide)
    (he : starEach (e :: es) X.env = (false, eval e X.env) :: starEach es X.env := by rfl) (hpl : (backTo pos (starEach es X.env)).any (·.1) = false := by rfl) : PE X (.Call (.Name x p) (e :: es) [] pos) (tCB r t) := by
  intro pins s σ H Q I h
  refine wpAny_Call_Name_kw (ld_blt I hg hm hv ?_ hn hdb)
  exact PyProof.Rows.callWith_builtin1 (thn (ha pos pins s σ H _ I h) fun us s1 ⟨vs, H1, I1, r1, q1⟩ => hc pins s1 σ H1 vs us Q I1 r1 q1) he hpl
end
end L2

namespace HT
open PySem PyProof.Rows

section
open PySem.SeqAt
open PySem.AutoSeq1 (wpAny_loadPart')
open PySem.MeetsSeq PySem.MeetsSeq2 PySem.MeetsSeq3

end

section
variable {prog : Program} {w : World} {A : Around} {E : Value → Shared → Prop} {s : Shared}

/-! ### t[a:b], not the whole -/
/-- a slice's bound as a place among n (d where it is left out) -/
def sIx (n d : Nat) : Option Int → Nat
  | none => d
  | some v => if v < 0 then (v + (n : Int)).toNat else min v.toNat n
theorem sIx_nat (n d k : Nat) : sIx n d (some (k : Int)) = min k n := by
  show (if (k : Int) < 0 then ((k : Int) + (n : Int)).toNat else min (k : Int).toNat n) = min k n
  rw [if_neg (by omega), Int.toNat_natCast]
theorem clip_eq (v : Int) (n d : Nat) : (if v < 0 then max (v + (n : Int)) 0 else min v (n : Int)) = ((sIx n d (some v) : Nat) : Int) := by
  show (if v < 0 then max (v + (n : Int)) 0 else min v (n : Int)) = (((if v < 0 then (v + (n : Int)).toNat else min v.toNat n) : Nat) : Int)
  by_cases hv : v < 0
  · simp only [if_pos hv]; omega
  · simp only [if_neg hv]; omega
end
end HT

namespace L2
open PySem PySem.Spec PyProof.Rows

/-! ### the parts of a slice -/
abbrev TO := St → Hp → (Option Int → Hp → Prop) → Prop
/-- a slice's part (left out, or an int) -/
def PO (X : Cx) (e : Option Expr) (t : TO) : Prop :=
  ∀ (pins : List (Addr × Obj)) (s : Shared) (σ : St) (H : Hp) (Q : Option Int → Hp → Prop), Inv X pins σ H s → t σ H Q →
    wpAny (model X.prog X.w) X.A (evalPart e X.env) (fun u s' => ∃ o H', Inv X pins σ H' s' ∧ IsPart u o ∧ Q o H') X.xe s
def tNoPart : TO := fun _ H Q => Q none H
def tPart (t : TE) : TO := fun σ H Q => t σ H fun x H1 => ∃ i, x = .int i ∧ Q (some i) H1

section
variable {X : Cx} {e : Expr} {te : TE} {lo hi : Option Expr} {tl th : TO} {pos p2 : Pos}

theorem po_none : PO X none tNoPart := by
  intro pins s σ H Q I h
  rw [evalPart_none]
  exact wpAny_pure ⟨none, H, I, .none, h⟩
theorem po_some (h : PE X e te) : PO X (some e) (tPart te) := by
  intro pins s σ H Q I hw
  rw [evalPart_some]
  refine thn (h pins s σ H _ I hw) fun u s1 ⟨x, H1, I1, r1, q1⟩ => ?_
  obtain ⟨i, rfl, q⟩ := q1
  obtain ⟨t, rfl⟩ := r1
  exact ⟨some i, H1, I1, .int i t, q⟩

/-- what a slice of a value is, by values: the slice object stands at sl -/
def SlR (X : Cx) (r : V → Option Int → Option Int → Hp → VK → Prop) : Prop :=
  ∀ (pins : List (Addr × Obj)) (s : Shared) (σ : St) (H : Hp) (x : V) (v vl vu : Value) (lo hi : Option Int) (sl : Addr) (Q : VK), Inv X pins σ H s → RelV x v → s.heap.IsSliceOf sl vl vu .none → IsPart vl lo → IsPart vu hi → r x lo hi H Q →
    ∃ T id, typeLookup (.type T) "__getitem__" = pure (some (.builtin id)) ∧ s.TypeIs v T ∧ wpAny (model X.prog X.w) X.A (getItem v (.ref sl)) (EP X pins σ Q) X.xe s
theorem SlR.or {r r' : V → Option Int → Option Int → Hp → VK → Prop} (h : SlR X r) (h' : SlR X r') : SlR X (fun x lo hi H Q => r x lo hi H Q ∨ r' x lo hi H Q) := by
  intro pins s σ H x v vl vu lo hi sl Q I rx hs pl pu q
  rcases q with q | q
  · exact h pins s σ H x v vl vu lo hi sl Q I rx hs pl pu q
  · exact h' pins s σ H x v vl vu lo hi sl Q I rx hs pl pu q
def tSl (r : V → Option Int → Option Int → Hp → VK → Prop) (te : TE) (tl th : TO) : TE := fun σ H Q => te σ H fun x H1 => tl σ H1 fun l H2 => th σ H2 fun u H3 => r x l u H3 Q
/-- a[lo:hi], any a -/
theorem pe_slice {r : V → Option Int → Option Int → Hp → VK → Prop} (hr : SlR X r) (he : PE X e te) (hl : PO X lo tl) (hu : PO X hi th) : PE X (.Subscript e (.Slice lo hi none p2) pos) (tSl r te tl th) := by
  intro pins s σ H Q I h
  refine Subscript_ (thn (he pins s σ H _ I h) fun v s1 ⟨x, H1, I1, r1, q1⟩ => ?_)
  refine wpAny_Slice (thn (hl pins s1 σ H1 _ I1 q1) fun vl s2 ⟨l, H2, I2, pl, q2⟩ => thn (hu pins s2 σ H2 _ I2 q2) fun vu s3 ⟨u, H3, I3, pu, q3⟩ => ?_)
  rw [evalPart_none]
  refine wpAny_pure ?_
  have I4 : Inv X pins σ H3 { s3 with heap := s3.heap.push { cls := .type "slice", data := .fields #[vl, vu, .none] } } := I3.kept (t' := s3.toks) fun b ob q => Heap.get?_push_of_some _ q
  obtain ⟨T, id, hT, ht, hg⟩ := hr pins { s3 with heap := s3.heap.push { cls := .type "slice", data := .fields #[vl, vu, .none] } } σ H3 x v vl vu l u s3.heap.objs.size Q I4 r1 (Heap.IsSliceOf.new ..) pl pu q3
  show wpAny (model X.prog X.w) X.A (subscriptTail e (.Slice lo hi none p2) v (.ref s3.heap.objs.size)) (EP X pins σ Q) X.xe { s3 with heap := s3.heap.push { cls := .type "slice", data := .fields #[vl, vu, .none] } }
  exact tail_any (ops := [.ref s3.heap.objs.size, v]) ht hT hg (by with_unfolding_all rfl)

/-- the items of xs[lo:hi] -/
def cutV (xs : List V) (lo hi : Option Int) : List V := (xs.drop (HT.sIx xs.length 0 lo)).take (HT.sIx xs.length xs.length hi - HT.sIx xs.length 0 lo)
theorem cutV_length (xs : List V) (lo hi : Option Int) : (cutV xs lo hi).length ≤ xs.length := by
  unfold cutV
  rw [List.length_take, List.length_drop]
  omega
/-! ### t < u, t + u -/
end
end L2

namespace L2
open PySem PySem.Spec PyProof.Rows

/-! ### places -/
/-- the place that an index of any sign means -/
def ixN (n : Nat) (i : Int) : Option Nat := if 0 ≤ i then (if i < n then some i.toNat else none) else if -(n : Int) ≤ i then some (i + n).toNat else none
def atI {α : Type} (xs : List α) (i : Int) : Option α := (ixN xs.length i).bind fun j => xs[j]?
theorem ixN_seq {n : Nat} {i : Int} {j : Nat} (h : ixN n i = some j) : seqIndex? i n = some j ∧ j < n ∧ -(n : Int) ≤ i ∧ i < n := by
  unfold ixN at h
  by_cases h0 : 0 ≤ i
  · rw [if_pos h0] at h
    by_cases h1 : i < n
    · rw [if_pos h1] at h
      have e : i.toNat = j := Option.some.inj h
      exact ⟨by rw [seqIndex_of h0 h1, e], by omega, by omega, h1⟩
    · rw [if_neg h1] at h; cases h
  · rw [if_neg h0] at h
    by_cases h1 : -(n : Int) ≤ i
    · rw [if_pos h1] at h
      have e : (i + n).toNat = j := Option.some.inj h
      exact ⟨by rw [seqIndex_neg (by omega) h1, e], by omega, h1, by omega⟩
    · rw [if_neg h1] at h; cases h
theorem atI_get {α : Type} {xs : List α} {i : Int} {v : α} (h : atI xs i = some v) : ∃ j, seqIndex? i xs.length = some j ∧ xs[j]? = some v ∧ j < xs.length ∧ -(xs.length : Int) ≤ i ∧ i < xs.length := by
  unfold atI at h
  cases e : ixN xs.length i with
  | none => rw [e] at h; cases h
  | some j =>
    rw [e] at h
    obtain ⟨h1, h2, h3, h4⟩ := ixN_seq e
    exact ⟨j, h1, h, h2, h3, h4⟩
theorem atI_nat {α : Type} {xs : List α} {j : Nat} {v : α} (h : xs[j]? = some v) : atI xs (j : Int) = some v := by
  have hj : j < xs.length := (List.getElem?_eq_some_iff.mp h).1
  have e : ixN xs.length (j : Int) = some j := by
    unfold ixN
    rw [if_pos (by omega), if_pos (by omega)]; simp
  unfold atI; rw [e]; exact h
theorem atI_last {α : Type} (xs : List α) (v : α) : atI (xs ++ [v]) (-1) = some v := by
  have hl : (xs ++ [v]).length = xs.length + 1 := by simp
  have e : ixN (xs ++ [v]).length (-1) = some xs.length := by
    unfold ixN
    rw [hl, if_neg (by decide), if_pos (by omega)]
    congr 1
    omega
  unfold atI
  rw [e]
  show (xs ++ [v])[xs.length]? = some v
  simp

/-! ### what may be subscripted -/
/-- what stands as an index of a plain subscript -/
def PlainIx (b : Expr) : Prop := ∀ o i, subscripted b false o i = operate [o, i] (getItem o i)
/-- a subscript by values -/
def IxR (X : Cx) (r : R2) : Prop :=
  ∀ (value slice : Expr) (pins : List (Addr × Obj)) (s : Shared) (σ : St) (H : Hp) (x y : V) (v u : Value) (Q : VK), Inv X pins σ H s → RelV x v → RelV y u → r x y H Q →
    subscripted slice false v u = operate [v, u] (getItem v u) → wpAny (model X.prog X.w) X.A (subscriptTail value slice v u) (EP X pins σ Q) X.xe s
/-- a call of a builtin's method by values: the receiver, the arguments -/
def MtR (X : Cx) (id : String) (r : V → List V → Hp → VK → Prop) : Prop :=
  ∀ (pins : List (Addr × Obj)) (s : Shared) (σ : St) (H : Hp) (x : V) (xs : List V) (v : Value) (us : List Value) (Q : VK), Inv X pins σ H s → RelV x v → Vals xs us → r x xs H Q →
    wpAny (model X.prog X.w) X.A (call (.builtin id) (v :: us)) (EP X pins σ Q) X.xe s
section
variable {X : Cx} {a b : Expr} {ta tb : TE} {pos : Pos}
theorem IxR.or {r r' : R2} (h : IxR X r) (h' : IxR X r') : IxR X (fun x y H Q => r x y H Q ∨ r' x y H Q) := by
  intro value slice pins s σ H x y v u Q I rx ry q hs
  rcases q with q | q
  · exact h value slice pins s σ H x y v u Q I rx ry q hs
  · exact h' value slice pins s σ H x y v u Q I rx ry q hs
theorem MtR.or {id : String} {r r' : V → List V → Hp → VK → Prop} (h : MtR X id r) (h' : MtR X id r') : MtR X id (fun x xs H Q => r x xs H Q ∨ r' x xs H Q) := by
  intro pins s σ H x xs v us Q I rx rs q
  rcases q with q | q
  · exact h pins s σ H x xs v us Q I rx rs q
  · exact h' pins s σ H x xs v us Q I rx rs q
/-- a[b] -/
theorem pe_ix {r : R2} (hr : IxR X r) (ha : PE X a ta) (hb : PE X b tb) (hs : PlainIx b) : PE X (.Subscript a b pos) (tOp r ta tb) := by
  intro pins s σ H Q I h
  exact Subscript_ (binT ha hb I h fun v u s2 x y H2 I2 rx ry q => hr a b pins s2 σ H2 x y v u Q I2 rx ry q (hs _ _))

def rIxL (K : PySem.W.Frag) : R2 := fun x y H Q => ∃ p xs i v, x = .ref p ∧ y = .int i ∧ SqL K H p xs ∧ atI xs i = some v ∧ Q v H
def rIxS : R2 := fun x y H Q => ∃ z i c, x = .str z ∧ y = .int i ∧ z.length ≤ sizeLine ∧ atI z.cps.toList i = some c ∧ Q (.str ⟨#[c]⟩) H
theorem ix_list : IxR X (rIxL X.K) := by
  intro value slice pins s σ H x y v u Q I rx ry h hs
  obtain ⟨p, xs, i, z, rfl, rfl, hq, he, q⟩ := h
  cases rx
  obtain ⟨t, rfl⟩ := ry
  obtain ⟨its, r, pl, hz⟩ := I.list hq
  obtain ⟨j, h1, h2, h3, h4, h5⟩ := atI_get he
  obtain ⟨w, ew, rw'⟩ := r.get h2
  have hl := r.length
  have hn := line63
  have fin : EP X pins σ Q w s := ⟨z, H, I, rw', q⟩
  by_cases h0 : 0 ≤ i
  · have hj : i.toNat = j := by
      rw [seqIndex_of h0 h5] at h1
      exact Option.some.inj h1
    exact item_listR pl.isList h0 (by omega) (by rw [hj]; simpa using ew) fin hs
  · have hj : (i + (its.toArray.size : Int)).toNat = j := by
      rw [seqIndex_neg (by omega) h4] at h1
      rw [List.size_toArray, ← hl]
      exact Option.some.inj h1
    exact subscriptTail_builtinR (x := w) pl.isList.typeIs slot_list_getitem.lookup
      (wpAny_getItem_list_neg (Q := fun r s' => r = w ∧ EP X pins σ Q r s') pl.isList (by omega) (by rw [List.size_toArray] <;> omega) (by omega) (by rw [hj]; simpa using ew) ⟨rfl, fin⟩) hs
theorem ix_str : IxR X rIxS := by
  intro value slice pins s σ H x y v u Q I rx ry h hs
  obtain ⟨z, i, c, rfl, rfl, hz, he, q⟩ := h
  obtain ⟨t, rfl⟩ := rx
  obtain ⟨t', rfl⟩ := ry
  obtain ⟨j, h1, h2, h3, h4, h5⟩ := atI_get he
  have hl : z.cps.toList.length = z.length := by simp [Str.length]
  rw [hl] at h1 h4 h5
  have hn := line63
  exact tail_any (typeIs_str s z t) slot_str_getitem.lookup (getItem_str (c := c) (by
    have e1 : decide (i < -(2 ^ 63 : Int)) = false := decide_eq_false (by omega)
    have e2 : decide (i ≥ 2 ^ 63) = false := decide_eq_false (by omega)
    rw [e1, e2, Bool.or_false]) (by rw [h1]; simpa using h2) ⟨.str ⟨#[c]⟩, H, I.tok _, ⟨_, rfl⟩, q⟩) hs
/-! ### xs[i] = v, any sign -/
/-- the list's object behind a store -/
theorem mapSeq_set (its : List Value) (n j : Nat) (u : Value) : Obj.mapSeq (·.setIfInBounds j u) { cls := .type "list", data := .seq its.toArray n } = { cls := .type "list", data := .seq (its.set j u).toArray n } := by
  simp [Obj.mapSeq]
theorem Inv.lst {pins : List (Addr × Obj)} {σ : St} {H : Hp} {s : Shared} {p : Addr} {xs : List V} (I : Inv X pins σ H s) (h : H p = some (.lst xs)) :
    ∃ (its : List Value) (n : Nat), Vals xs its ∧ s.heap.get? p = some { cls := .type "list", data := .seq its.toArray n } ∧ xs.length ≤ sizeLine := by
  obtain ⟨z, its, n, r, e⟩ := I.hok p _ h
  exact ⟨its, n, r, e, z⟩
/-- the list at p is written by an update of its object -/
theorem Inv.lstUpd {pins : List (Addr × Obj)} {σ : St} {H : Hp} {s : Shared} {p : Addr} {xs ys : List V} {its its' : List Value} {n n' : Nat} {f : Obj → Obj} (I : Inv X pins σ H s) (h : H p = some (.lst xs))
    (ho : s.heap.get? p = some { cls := .type "list", data := .seq its.toArray n }) (hf : f { cls := .type "list", data := .seq its.toArray n } = { cls := .type "list", data := .seq its'.toArray n' }) (r : Vals ys its') (hz : ys.length ≤ sizeLine) (t : Nat) :
    Inv X pins σ (upd H p (.lst ys)) { s with heap := s.heap.update p f, toks := t } := by
  have e : (s.heap.update p f).get? p = some { cls := .type "list", data := .seq its'.toArray n' } := by
    rw [Heap.get?_update_self f ho (by rw [hf] <;> rfl), hf]
  refine I.write (x := p) (e := p) (by rw [h]; trivial) (.inl rfl) (fun b u hb q => (Heap.get?_update_other _ _ (Ne.symm hb)).trans q) ⟨_, e⟩ ?_
  exact ⟨hz, its', n', r, e⟩
def rSetL : V → V → V → Hp → (Hp → Prop) → Prop := fun o i v H Q => ∃ p xs k j, o = .ref p ∧ i = .int k ∧ H p = some (.lst xs) ∧ ixN xs.length k = some j ∧ Q (upd H p (.lst (xs.set j v)))
theorem set_list : PSet X rSetL := by
  intro pins s σ H o i v ov iv u Q I ro ri rv h
  obtain ⟨p, xs, k, j, rfl, rfl, hp, hj, q⟩ := h
  cases ro
  obtain ⟨t, rfl⟩ := ri
  obtain ⟨its, n, r, ho, hz⟩ := I.lst hp
  obtain ⟨h1, h2, h3, h4⟩ := ixN_seq hj
  have hl := r.length
  have hn := line63
  have I' : Inv X pins σ (upd H p (.lst (xs.set j v))) { s with heap := s.heap.update p (Obj.mapSeq (·.setIfInBounds j u)) } :=
    I.lstUpd hp ho (mapSeq_set its n j u) (r.set rv j) (by rw [List.length_set]; exact hz) s.toks
  by_cases h0 : 0 ≤ k
  · have hk : k.toNat = j := by
      rw [seqIndex_of h0 h4] at h1
      exact Option.some.inj h1
    exact PySem.W.ki_setAt ho h0 (by omega) (by rw [List.size_toArray, ← hl]; exact h4) (by rw [hk]; exact ⟨_, I', q⟩)
  · have hk : (k + (its.toArray.size : Int)).toNat = j := by
      rw [seqIndex_neg (by omega) h3] at h1
      rw [List.size_toArray, ← hl]
      exact Option.some.inj h1
    exact PySem.W.ki_setBack ho (by omega) (by rw [List.size_toArray, ← hl]; exact h3) (by omega) (by rw [hk]; exact ⟨_, I', q⟩)

/-! ### slices -/
theorem slice_bounds (lo hi : Option Int) (n : Nat) : (sliceBounds lo hi none n).1 = ((HT.sIx n 0 lo : Nat) : Int) ∧ (sliceBounds lo hi none n).2.1 = ((HT.sIx n n hi : Nat) : Int) ∧ (sliceBounds lo hi none n).2.2 = 1 := by
  refine ⟨?_, ?_, rfl⟩
  · cases lo with
    | none => simp [sliceBounds, HT.sIx]
    | some i =>
      simp only [sliceBounds, HT.sIx, Option.getD_none, show (1 : Int) > 0 by decide, if_true]
      by_cases h : i < 0
      · simp only [h, if_true] <;> omega
      · simp only [h, if_false] <;> omega
  · cases hi with
    | none => simp [sliceBounds, HT.sIx]
    | some i =>
      simp only [sliceBounds, HT.sIx, Option.getD_none, show (1 : Int) > 0 by decide, if_true]
      by_cases h : i < 0
      · simp only [h, if_true] <;> omega
      · simp only [h, if_false] <;> omega
theorem slicePick_cut (its : List Value) (lo hi : Option Int) : slicePick its.toArray lo hi none = ((its.drop (HT.sIx its.length 0 lo)).take (HT.sIx its.length its.length hi - HT.sIx its.length 0 lo)).toArray := by
  obtain ⟨h1, h2, h3⟩ := slice_bounds lo hi its.toArray.size
  unfold slicePick
  rw [h1, h2, h3]
  simp only [sliceRange_one, pick_run, List.size_toArray] <;> rfl
/-- xs[lo:hi] of a list: a new list -/
def rSlL (K : PySem.W.Frag) : V → Option Int → Option Int → Hp → VK → Prop := fun x lo hi H Q => ∃ a xs, x = .ref a ∧ SqL K H a xs ∧ ∀ p, H p = none → Q (.ref p) (upd H p (.lst (cutV xs lo hi)))
theorem sl_list : SlR X (rSlL X.K) := by
  intro pins s σ H x v vl vu lo hi sl Q I rx hs pl pu h
  obtain ⟨a, xs, rfl, hx, q⟩ := h
  cases rx
  obtain ⟨its, r, ht, hz⟩ := I.list hx
  have hlen := r.length
  refine ⟨"list", _, slot_list_getitem.lookup, ht.isList.typeIs, ?_⟩
  refine wpAny_getItem_list_slice ht.isList hs pl pu .none (by simp) ?_ (by rw [List.size_toArray] <;> omega)
  rw [slicePick_cut, ← hlen]
  refine ⟨.ref s.heap.objs.size, _, I.laid (t' := s.toks) (o := .lst (cutV xs lo hi)) (fun b ob q => Heap.get?_push_of_some _ q) (Nat.le_refl _) ?_, rfl, q _ (I.hok.fresh (Nat.le_refl _))⟩
  exact ⟨Nat.le_trans (cutV_length xs lo hi) hz, _, 0, (r.drop (HT.sIx xs.length 0 lo)).take (HT.sIx xs.length xs.length hi - HT.sIx xs.length 0 lo), Heap.get?_push_size _ rfl⟩

/-! ### in, not in: flat items -/
/-! ### len, list(x), tuple(x) of any list or tuple that is read -/
theorem call_len_seq : CallR X (.builtin "len") (fun xs H Q => ∃ p ys, xs = [.ref p] ∧ (SqL X.K H p ys ∨ SqT X.K H p ys) ∧ Q (.int ys.length) H) := by
  intro pins s σ H xs us Q I r h
  obtain ⟨p, ys, rfl, hq, q⟩ := h
  obtain ⟨u, rfl, rx⟩ := vals1 r
  cases rx
  have hn := line63
  rcases hq with hq | hq
  · obtain ⟨its, r', pl, hz⟩ := I.list hq
    have hlen := r'.length
    exact Calls.call_len_list pl.isList (by simp only [List.size_toArray] <;> omega) ⟨.int ys.length, H, I.tok _, ⟨s.toks + 1, by rw [List.size_toArray, hlen]⟩, q⟩
  · obtain ⟨its, r', pl, hz⟩ := I.tuple hq
    have hlen := r'.length
    exact len_tuple pl (by simp only [List.size_toArray] <;> omega) ⟨.int ys.length, H, I.tok _, ⟨s.toks + 1, by rw [List.size_toArray, hlen]⟩, q⟩
theorem CallR.or {f : Value} {r r' : List V → Hp → VK → Prop} (h : CallR X f r) (h' : CallR X f r') : CallR X f (fun xs H Q => r xs H Q ∨ r' xs H Q) := by
  intro pins s σ H xs us Q I rs q
  rcases q with q | q
  · exact h pins s σ H xs us Q I rs q
  · exact h' pins s σ H xs us Q I rs q
/-! ### the call of a builtin's method: o.m(..) -/
/-- the value is of that builtin type -/
def tyV (K : PySem.W.Frag) (T : String) (x : V) (H : Hp) : Prop := match x with
  | .str _ => T = "str"
  | .int _ => T = "int"
  | .ref p => (T = "list" ∧ ∃ xs, SqL K H p xs) ∨ (T = "tuple" ∧ ∃ o, K.lookup p = some o ∧ o.cls = .type "tuple" ∧ o.dict = none) ∨
      (T = "dict" ∧ ((∃ kvs, H p = some (.dK kvs)) ∨ ∃ kvs, H p = some (.dT kvs))) ∨ (T = "set" ∧ ∃ S n, H p = some (.set S n))
  | _ => False
theorem tyV_is {pins : List (Addr × Obj)} {σ : St} {H : Hp} {s : Shared} {T : String} {x : V} {v : Value} (I : Inv X pins σ H s) (r : RelV x v) (ty : tyV X.K T x H) :
    s.TypeIs v T ∧ ∀ a, v = .ref a → ∃ ob, s.heap.get? a = some ob ∧ ob.dict = none := by
  cases x with
  | str z =>
    obtain ⟨t, rfl⟩ := r
    cases (show T = "str" from ty)
    exact ⟨typeIs_str s z t, fun _ e => nomatch e⟩
  | int i =>
    obtain ⟨t, rfl⟩ := r
    cases (show T = "int" from ty)
    exact ⟨typeIs_int s i t, fun _ e => nomatch e⟩
  | ref p =>
    cases r
    rcases ty with ⟨rfl, xs, hq⟩ | ⟨rfl, o, hk, hc, hd⟩ | ⟨rfl, hk⟩ | ⟨rfl, S, n, hk⟩
    · obtain ⟨its, _, pl, _⟩ := I.list hq
      refine ⟨pl.isList.typeIs, fun a e => ?_⟩
      cases e
      obtain ⟨o, n, e, c, hd, _⟩ := pl
      exact ⟨o, e, hd⟩
    · refine ⟨⟨o, I.kIn p o hk, hc⟩, fun a e => ?_⟩
      cases e
      exact ⟨o, I.kIn _ o hk, hd⟩
    · have z : ∃ o, s.heap.get? p = some o ∧ o.ExactDict := by
        rcases hk with ⟨kvs, hk⟩ | ⟨kvs, hk⟩
        · obtain ⟨_, _, _, _, o, _, _, e, ex, _⟩ := I.hok p _ hk
          exact ⟨o, e, ex⟩
        · obtain ⟨_, _, _, _, o, _, _, e, ex, _⟩ := I.hok p _ hk
          exact ⟨o, e, ex⟩
      obtain ⟨o, e, ex⟩ := z
      refine ⟨⟨o, e, ex.1⟩, fun a e2 => ?_⟩
      cases e2
      exact ⟨o, e, ex.2.1⟩
    · obtain ⟨o, _, _, _, e, ex, _⟩ := I.hok p _ hk
      refine ⟨⟨o, e, ex.1⟩, fun a e2 => ?_⟩
      cases e2
      exact ⟨o, e, ex.2.1⟩
  | _ => exact False.elim ty
def tBM (K : PySem.W.Frag) (T : String) (r : V → List V → Hp → VK → Prop) (to : TE) (t : TA) : TE := fun σ H Q => to σ H fun x H1 => tyV K T x H1 ∧ t σ H1 fun xs H2 => r x xs H2 Q
variable {o e : Expr} {es : List Expr} {to : TE} {t : TA} {name : Str} {apos cpos : Pos} {T id : String} {r : V → List V → Hp → VK → Prop}
theorem pe_bm (pa : PlainAttrs T) (slot : Slot T name id) (hty : typeOf (.builtin id) = pure (.type "method_descriptor")) (hm : MtR X id r) (ho : PE X o to) (ha : PA X (e :: es) t)
    (hbase : attributeBase o name X.env (eval o X.env) = eval o X.env := by rfl)
    (hfew : ((backTo cpos (starEach (e :: es) X.env)).all (fun x => !x.1) && (backToKw cpos (keywordEach [] X.env)).all (fun x => x.1.isSome)
      && decide ((e :: es).length + ([] : List Keyword).length + (if ([] : List Keyword).isEmpty then 0 else 1) < 30)) = true := by rfl)
    (hline : (apos.endLine == cpos.line) = true := by rfl) (hs : starEach (e :: es) X.env = (false, eval e X.env) :: starEach es X.env := by rfl) (hplain : (backTo cpos (starEach es X.env)).any (·.1) = false := by rfl) :
    PE X (.Call (.Attribute o name apos) (e :: es) [] cpos) (tBM X.K T r to t) := by
  intro pins s σ H Q I h
  refine wpAny_Call_method_late hbase hfew hline rfl (thn (ho pins s σ H _ I h) fun v s1 ⟨x, H1, I1, r1, ty, q1⟩ => ?_)
  obtain ⟨h1, h2⟩ := tyV_is I1 r1 ty
  refine ⟨T, id, pa, slot, hty, h1, h2, ?_⟩
  have hA := ha cpos pins s1 σ H1 _ I1 q1
  rw [hs] at hA ⊢
  refine Calls.callWith_builtin (by show (false || (backTo cpos (starEach es X.env)).any (·.1)) = false; rw [hplain] <;> rfl) (Calls.evalArgs_plain ?_)
  exact thn hA fun us s2 ⟨vs, H2, I2, r2, q2⟩ => hm pins s2 σ H2 x vs v us Q I2 r1 r2 q2
/- xs.append(e), list.index on a module's tuple .. are MtR facts of 06m -/
end
end L2

namespace L2
open PySem PySem.Spec PyProof.Rows

def MtM (X : Cx) (id : String) (r : V → List V → Hp → VK → Prop) : Prop :=
  ∀ (pins : List (Addr × Obj)) (s : Shared) (σ : St) (H : Hp) (x : V) (xs : List V) (v : Value) (us : List Value) (Q : VK), Inv X pins σ H s → RelV x v → Vals xs us → r x xs H Q →
    wpAny (model X.prog X.w) X.A (call (.builtin id) (v :: us)) (EP X pins σ Q) X.xe s

/-! ### lists of values -/
theorem Vals.one : ∀ {x : V} {us : List Value}, Vals [x] us → ∃ u, us = [u] ∧ RelV x u
  | _, _, .cons r .nil => ⟨_, rfl, r⟩
theorem Vals.two : ∀ {x y : V} {us : List Value}, Vals [x, y] us → ∃ u v, us = [u, v] ∧ RelV x u ∧ RelV y v
  | _, _, _, .cons r (.cons q .nil) => ⟨_, _, rfl, r, q⟩
theorem Vals.zero : ∀ {us : List Value}, Vals [] us → us = []
  | _, .nil => rfl
theorem Vals.dropLast {xs : List V} {us : List Value} (h : Vals xs us) : Vals xs.dropLast us.dropLast := by
  induction h with
  | nil => exact .nil
  | cons r t ih =>
    cases t with
    | nil => exact .nil
    | cons q t' => exact .cons r ih
theorem Vals.eraseIdx : ∀ {xs : List V} {us : List Value} (i : Nat), Vals xs us → Vals (xs.eraseIdx i) (us.eraseIdx i)
  | _, _, _, .nil => .nil
  | _, _, 0, .cons _ t => t
  | _, _, i + 1, .cons r t => .cons r (Vals.eraseIdx i t)
theorem Vals.rep {xs : List V} {us : List Value} (h : Vals xs us) : ∀ k : Nat, Vals (List.replicate k xs).flatten (List.replicate k us).flatten
  | 0 => .nil
  | k + 1 => by
    rw [List.replicate_succ, List.replicate_succ, List.flatten_cons, List.flatten_cons]
    exact Vals.append h (Vals.rep h k)
theorem len_erase {α : Type} : ∀ (l : List α) (i : Nat), (l.eraseIdx i).length ≤ l.length
  | [], _ => Nat.le_refl _
  | _ :: _, 0 => Nat.le_succ _
  | _ :: r, i + 1 => Nat.succ_le_succ (len_erase r i)
theorem foldl_rep (its : List Value) : ∀ (k : Nat) (acc : List Value),
    List.foldl (fun x1 x2 => x1 ++ x2) acc.toArray (List.replicate k its.toArray) = (acc ++ (List.replicate k its).flatten).toArray
  | 0, acc => by simp
  | k + 1, acc => by
    have e : acc.toArray ++ its.toArray = (acc ++ its).toArray := by simp
    have e2 : (acc ++ its) ++ (List.replicate k its).flatten = acc ++ (List.replicate (k + 1) its).flatten := by
      rw [List.replicate_succ, List.flatten_cons, List.append_assoc]
    rw [← e2, ← foldl_rep its k (acc ++ its), ← e, List.replicate_succ, List.foldl_cons]

section
variable {X : Cx} {pins : List (Addr × Obj)} {σ : St} {H : Hp} {s : Shared} {l b : Addr} {xs ys zs : List V}

/-! ### the two steps: a tracked list is rewritten, a new list is laid -/
theorem Inv.lset {its its' : List Value} {n : Nat} {f : Array Value → Array Value} {t' : Nat} (I : Inv X pins σ H s) (hH : H l = some (.lst xs))
    (e : s.heap.get? l = some { cls := .type "list", data := .seq its.toArray n }) (hf : f its.toArray = its'.toArray) (hv : Vals ys its') (hz : ys.length ≤ sizeLine) :
    Inv X pins σ (upd H l (.lst ys)) { s with heap := s.heap.update l (Obj.mapSeq f), toks := t' } := by
  have q := PySem.IsL.update e f
  rw [hf] at q
  refine I.write (x := l) (e := l) (by rw [hH]; exact trivial) (.inl rfl) (fun b' u hb hu => (Heap.get?_update_other s.heap (Obj.mapSeq f) (Ne.symm hb)).trans hu) ⟨_, q⟩ ?_
  exact ⟨hz, its', _, hv, q⟩
theorem Inv.lnew {its : List Value} {t' : Nat} (I : Inv X pins σ H s) (hv : Vals ys its) (hz : ys.length ≤ sizeLine) :
    Inv X pins σ (upd H s.heap.objs.size (.lst ys)) { s with heap := s.heap.push { cls := .type "list", data := .seq its.toArray }, toks := t' } :=
  I.laid (fun _ _ q => Heap.get?_push_of_some _ q) (Nat.le_refl _) ⟨hz, its, 0, hv, Heap.get?_push_size _ rfl⟩
theorem Inv.fresh (I : Inv X pins σ H s) : H s.heap.objs.size = none := I.hok.fresh (Nat.le_refl _)
theorem Inv.lstM (I : Inv X pins σ H s) (hH : H l = some (.lst xs)) : xs.length ≤ sizeLine ∧ ∃ (its : List Value) (n : Nat), Vals xs its ∧ xs.length = its.length ∧ s.heap.get? l = some { cls := .type "list", data := .seq its.toArray n } := by
  obtain ⟨z, its, n, r, e⟩ := I.hok l _ hH
  exact ⟨z, its, n, r, r.length, e⟩

theorem notLongL {n : Nat} (h : n ≤ sizeLine) : Builtin.List.listTooLong n = false := by
  unfold Builtin.List.listTooLong
  exact decide_eq_false (by omega)
end

section
variable {X : Cx}

/-! ### methods -/
def rAppend : V → List V → Hp → VK → Prop := fun x vs H Q => ∃ l xs y, x = .ref l ∧ vs = [y] ∧ H l = some (.lst xs) ∧ xs.length < sizeLine ∧ Q .non (upd H l (.lst (xs ++ [y])))
theorem mt_append : MtM X "list.append" rAppend := by
  intro pins s σ H x vs v us Q I rx rv h
  obtain ⟨l, xs, y, rfl, rfl, hH, hz, q⟩ := h
  cases rx
  obtain ⟨u, rfl, ru⟩ := rv.one
  obtain ⟨z, its, n, r, hl, e⟩ := I.lstM hH
  refine call_meets F.slot_list_append ⟨_, e, rfl⟩ F.entry_list_append (F.args_list_append_2 _ _) (PySem.list_append l its.toArray n u (by rw [List.size_toArray]; omega)) ⟨e, ?_⟩
  refine ⟨.non, _, I.lset (its' := its ++ [u]) hH e (by simp) (r.append (.cons ru .nil)) ?_, rfl, q⟩
  rw [List.length_append, List.length_singleton]
  omega

def rExtend : V → List V → Hp → VK → Prop := fun x vs H Q => ∃ l b xs zs, x = .ref l ∧ vs = [.ref b] ∧ H l = some (.lst xs) ∧ H b = some (.lst zs) ∧ xs.length + zs.length ≤ sizeLine ∧ Q .non (upd H l (.lst (xs ++ zs)))
theorem mt_extend : MtM X "list.extend" rExtend := by
  intro pins s σ H x vs v us Q I rx rv h
  obtain ⟨l, b, xs, zs, rfl, rfl, hH, hB, hz, q⟩ := h
  cases rx
  obtain ⟨u, rfl, ru⟩ := rv.one
  cases ru
  obtain ⟨z, its, n, r, hl, e⟩ := I.lstM hH
  obtain ⟨z2, its2, n2, r2, hl2, e2⟩ := I.lstM hB
  have hsz : its.toArray.size + its2.toArray.size ≤ sizeLine := by rw [List.size_toArray, List.size_toArray]; omega
  have hlong : ¬ (!its.toArray.isEmpty && Builtin.List.listTooLong (its.toArray.size + its2.toArray.size)) = true := by
    rw [notLongL hsz, Bool.and_false]
    exact Bool.false_ne_true
  refine call_meets F.slot_list_extend ⟨_, e, rfl⟩ F.entry_list_extend (F.args_list_extend_2 _ _)
    (AutoSeq1.list_extend_list_list_0 l its.toArray n b its2.toArray n2 hlong (by rw [List.size_toArray]; omega) (by omega)) ⟨e, e2, ?_⟩
  refine ⟨.non, _, I.lset (its' := its ++ its2) hH e (by simp) (r.append r2) ?_, rfl, q⟩
  rw [List.length_append]
  omega

def rPopAt : V → List V → Hp → VK → Prop := fun x vs H Q => ∃ l xs i k y, x = .ref l ∧ vs = [.int i] ∧ H l = some (.lst xs) ∧ -(2 ^ 63) ≤ i ∧ i < 2 ^ 63 ∧ seqIndex? i xs.length = some k ∧ xs[k]? = some y ∧ Q y (upd H l (.lst (xs.eraseIdx k)))
theorem mt_popAt : MtM X "list.pop" rPopAt := by
  intro pins s σ H x vs v us Q I rx rv h
  obtain ⟨l, xs, i, k, y, rfl, rfl, hH, h1, h2, hk, hy, q⟩ := h
  cases rx
  obtain ⟨u, rfl, ru⟩ := rv.one
  obtain ⟨t, rfl⟩ := ru
  obtain ⟨z, its, n, r, hl, e⟩ := I.lstM hH
  obtain ⟨w, hw, rw'⟩ := r.get hy
  refine call_meets F.slot_list_pop ⟨_, e, rfl⟩ F.entry_list_pop (F.args_list_pop_2 _ _)
    (MeetsSeq.list_pop_at l its.toArray n i t k w (fitsIndex_both h1 h2) (by rw [List.size_toArray, ← hl]; exact hk) (by rw [← Array.getElem?_toList]; exact hw) (by rw [List.size_toArray]; omega)) ⟨e, ?_⟩
  refine ⟨y, _, I.lset (its' := its.eraseIdx k) hH e ?_ (r.eraseIdx k) ?_, rw', q⟩
  · show its.toArray.eraseIdxIfInBounds k = (its.eraseIdx k).toArray
    rw [List.eraseIdxIfInBounds_toArray]
  · have := len_erase xs k
    omega

/-! ### list + list, list += list, list * int -/
def rCat : R2 := fun x y H Q => ∃ l b xs zs, x = .ref l ∧ y = .ref b ∧ H l = some (.lst xs) ∧ H b = some (.lst zs) ∧ xs.length + zs.length ≤ sizeLine ∧ ∀ p, H p = none → Q (.ref p) (upd H p (.lst (xs ++ zs)))
theorem op_cat : OpR X (binaryOp .Add) rCat := by
  intro pins s σ H x y v u Q I rx ry h
  obtain ⟨l, b, xs, zs, rfl, rfl, hH, hB, hz, q⟩ := h
  cases rx
  cases ry
  obtain ⟨z, its, n, r, hl, e⟩ := I.lstM hH
  obtain ⟨z2, its2, n2, r2, hl2, e2⟩ := I.lstM hB
  refine PySem.P.add_list e e2 ?_ (by rw [List.size_toArray, List.size_toArray]; omega)
  have ea : its.toArray ++ its2.toArray = (its ++ its2).toArray := by simp
  rw [ea]
  exact ⟨.ref _, _, I.lnew (t' := s.toks) (r.append r2) (by rw [List.length_append]; omega), rfl, q _ I.fresh⟩
/-- a list times an int (a negative one is nothing) -/
def rRep : R2 := fun x y H Q => ∃ l k xs, x = .ref l ∧ y = .int k ∧ H l = some (.lst xs) ∧ -(2 ^ 63) ≤ k ∧ k < 2 ^ 63 ∧ xs.length * k.toNat ≤ sizeLine ∧
  ∀ p, H p = none → Q (.ref p) (upd H p (.lst (List.replicate k.toNat xs).flatten))
theorem len_rep {α : Type} (xs : List α) (k : Nat) : (List.replicate k xs).flatten.length = k * xs.length := by
  induction k with
  | zero => simp
  | succ k ih => rw [List.replicate_succ, List.flatten_cons, List.length_append, ih, Nat.succ_mul, Nat.add_comm]
theorem op_rep : OpR X (binaryOp .Mult) rRep := by
  intro pins s σ H x y v u Q I rx ry h
  obtain ⟨l, k, xs, rfl, rfl, hH, h1, h2, hz, q⟩ := h
  cases rx
  obtain ⟨t, rfl⟩ := ry
  obtain ⟨z, its, n, r, hl, e⟩ := I.lstM hH
  have hlen : its.toArray.size * k.toNat ≤ sizeLine := by rw [List.size_toArray, ← hl]; exact hz
  have hcap : ¬ its.toArray.size * k.toNat > (2 ^ 63 - 1) / 8 := by
    have : (sizeLine : Nat) ≤ (2 ^ 63 - 1) / 8 := by decide
    omega
  have hfit : ¬ (!Builtin.List.listFitsIndex k) = true := by
    rw [fitsIndex_both h1 h2]
    exact Bool.false_ne_true
  have hlong : ¬ Builtin.List.listTooLong (its.toArray.size * k.toNat) = true := by
    rw [notLongL hlen]
    exact Bool.false_ne_true
  have hnew : List.foldl (fun x1 x2 => x1 ++ x2) #[] (List.replicate (if its.toArray.isEmpty = true then 0 else k.toNat) its.toArray) = (List.replicate k.toNat its).flatten.toArray := by
    have f0 : ∀ m : Nat, List.foldl (fun x1 x2 => x1 ++ x2) #[] (List.replicate m its.toArray) = (List.replicate m its).flatten.toArray := fun m => by
      have := foldl_rep its m []
      rw [List.nil_append] at this
      exact this
    rw [f0]
    cases its with
    | nil => simp
    | cons a r' => rw [if_neg (by simp)]
  refine wpAny_binaryOp_repeat_ref (T := "list") (U := "int") (by decide) ⟨_, e, rfl⟩ (fun s' => typeIs_int s' k t) noFill_list_mul F.fills_int_mul F.slot_int_rmul repeat_list F.slot_int_index.lookup
    (call_meets F.slot_int_rmul (typeIs_int s k t) F.entry_int_rmul (F.args_int_rmul_2 _ _) (int___rmul___int_list k t l its.toArray n)
      ⟨e, rfl, ⟨_, e, rfl⟩, call_meets F.slot_list_mul ⟨_, e, rfl⟩ F.entry_list_mul (F.args_list_mul_2 _ _) (AutoListH.list___mul___list_int_3 l its.toArray n k t hfit hcap hlong) ⟨e, ?_⟩⟩)
  rw [hnew]
  exact ⟨.ref _, _, I.lnew (t' := s.toks) (r.rep k.toNat) (by rw [len_rep, Nat.mul_comm]; exact hz), rfl, q _ I.fresh⟩

/-! ### del xs[i] -/
end

/-! ### xs[a:b] = ys -/
section
variable {prog : Program} {w : World} {A : Around} {E : Value → Shared → Prop} {s : Shared}
end

section
variable {X : Cx}
end
end L2

namespace L2
open PySem PySem.Spec PyProof.Rows

theorem Vals.ints : ∀ {ns : List Int} {us : List Value}, Vals (ns.map V.int) us → IntsAre us ns
  | [], us, h => by
    rw [List.map_nil] at h
    cases h
    exact IntsAre.nil
  | n :: ns, us, h => by
    rw [List.map_cons] at h
    cases h with
    | cons r t =>
      obtain ⟨k, rfl⟩ := r
      exact IntsAre.cons n k (Vals.ints t)
theorem Vals.strs : ∀ {xs : List Str} {us : List Value}, Vals (xs.map V.str) us → StrsAre us xs
  | [], us, h => by
    rw [List.map_nil] at h
    cases h
    exact StrsAre.nil
  | x :: xs, us, h => by
    rw [List.map_cons] at h
    cases h with
    | cons r t =>
      obtain ⟨k, rfl⟩ := r
      exact StrsAre.cons x k (Vals.strs t)
theorem Vals.ref1 {a : Addr} {us : List Value} (r : Vals [V.ref a] us) : us = [Value.ref a] := by
  cases r with
  | cons r t =>
    cases t
    cases r
    rfl
/-! ### the library's walks over a list of ints, kept objects alone -/
section
variable {prog : Program} {w : World} {A : Around} {E : Value → Shared → Prop} {s : Shared} {l : Addr} {its : List Value} {ns : List Int} {Q : Value → Shared → Prop}
end

/-! ### the calls, by values (CallR of 03t; MtR of 06l) -/
section
variable {X : Cx}
/-! sorted, sort (fewer than 64 items: the library's own bound) -/
end

/-! ### list.index, flat items -/
section
variable {X : Cx}
end

/-! ### type(x) of an own instance; is, is not of a module's class -/
section
variable {X : Cx}
end

/-! ### any(xs), all(xs) of a list of bools -/
section
variable {X : Cx}
end

/-! ### == and != of data at any depth: none, bools, ints, texts, lists, tuples -/
mutual
inductive Dp (K : PySem.W.Frag) (H : Hp) : V → PyData → Prop
  | non : Dp K H .non .none
  | bl (b : Bool) : Dp K H (.bl b) (.bool b)
  | int (i : Int) : Dp K H (.int i) (.int i)
  | str (x : Str) : Dp K H (.str x) (.str x)
  | lst {a : Addr} {xs : List V} {ds : List PyData} : SqL K H a xs → DpAll K H xs ds → Dp K H (.ref a) (.list ds)
  | tup {a : Addr} {xs : List V} {ds : List PyData} : SqT K H a xs → DpAll K H xs ds → Dp K H (.ref a) (.tuple ds)
inductive DpAll (K : PySem.W.Frag) (H : Hp) : List V → List PyData → Prop
  | nil : DpAll K H [] []
  | cons {v : V} {vs : List V} {d : PyData} {ds : List PyData} : Dp K H v d → DpAll K H vs ds → DpAll K H (v :: vs) (d :: ds)
end
section
variable {X : Cx} {pins : List (Addr × Obj)} {σ : St} {H : Hp} {s : Shared}
mutual
theorem Dp.reads (I : Inv X pins σ H s) : ∀ (d : PyData) (v : V) (u : Value), Dp X.K H v d → RelV v u → ∃ as, Reads s.heap u d as
  | .none, _, _, h, r => by
    cases h
    cases r
    exact ⟨_, Reads.none⟩
  | .bool b, _, _, h, r => by
    cases h
    cases r
    exact ⟨_, Reads.bool b⟩
  | .int i, _, _, h, r => by
    cases h
    obtain ⟨t, rfl⟩ := r
    exact ⟨_, Reads.int i t⟩
  | .str x, _, _, h, r => by
    cases h
    obtain ⟨t, rfl⟩ := r
    exact ⟨_, Reads.str x t⟩
  | .list ds, _, _, h, r => by
    cases h with
    | lst hs ha =>
      cases r
      obtain ⟨its, rv, ⟨o, n, ho, hc, _, hd⟩, _⟩ := I.list hs
      obtain ⟨as, hr⟩ := Dp.readsAll I ds _ its ha rv
      exact ⟨_, Reads.list ho hc hd hr⟩
  | .tuple ds, _, _, h, r => by
    cases h with
    | tup hs ha =>
      cases r
      obtain ⟨its, rv, ⟨o, ho, hc, n, hd⟩, _⟩ := I.tuple hs
      obtain ⟨as, hr⟩ := Dp.readsAll I ds _ its ha rv
      exact ⟨_, Reads.tuple ho hc hd hr⟩
  | .dict _, _, _, h, _ => by cases h
theorem Dp.readsAll (I : Inv X pins σ H s) : ∀ (ds : List PyData) (vs : List V) (us : List Value), DpAll X.K H vs ds → Vals vs us → ∃ as, ReadsAll s.heap us ds as
  | [], _, _, h, r => by
    cases h
    cases r
    exact ⟨_, ReadsAll.nil⟩
  | d :: ds, _, _, h, r => by
    cases h with
    | cons h1 h2 =>
      cases r with
      | cons r1 r2 =>
        obtain ⟨as, q1⟩ := Dp.reads I d _ _ h1 r1
        obtain ⟨bs, q2⟩ := Dp.readsAll I ds _ _ h2 r2
        exact ⟨_, ReadsAll.cons q1 q2⟩
end
end
section
variable {X : Cx}
end
end L2

namespace L2
open PySem PySem.Spec PyProof.Rows
abbrev CellAt (h : Heap) (c : Addr) (v : Option Value) : Prop := h.IsCell c v
def relS (scope sc : Scope) : Scope :=
  { scope with names := scope.names.map fun (n, k) => if (k == .free && sc.kind == .function && sc.names.lookup n == some .cell) then (n, .cell) else (n, k) }

def cloFrom (cells : List (Str × Addr)) : List (Str × NameKind) → List (Str × Addr) → List (Str × Addr)
  | [], acc => acc
  | (n, k) :: r, acc => if k == .free then cloFrom cells r ((n, (cells.lookup n).getD 0) :: acc) else cloFrom cells r acc

theorem closure_loop (env : Env) (f : Str × NameKind → List (Str × Addr) → Sem (ForInStep (List (Str × Addr))))
    (hf : ∀ n k c, f (n, k) c = if k == .free then (do let a ← cellOf env n; pure (.yield ((n, a) :: c))) else pure (.yield c)) :
    ∀ (names : List (Str × NameKind)) (acc : List (Str × Addr)), (∀ y ∈ names, y.2 = .free → ∃ c, env.cells.lookup y.1 = some c) → forIn names acc f = pure (cloFrom env.cells names acc)
  | [], acc, _ => by rw [List.forIn_nil]; rfl
  | (n, k) :: r, acc, h => by
    rw [List.forIn_cons, hf]
    have ih := fun acc => closure_loop env f hf r acc fun y hy => h y (List.mem_cons_of_mem _ hy)
    unfold cloFrom
    by_cases hk : (k == NameKind.free) = true
    · rw [if_pos hk, if_pos hk]
      obtain ⟨c, hc⟩ := h (n, k) List.mem_cons_self (by simpa using hk)
      have e : cellOf env n = pure c := by unfold cellOf; rw [hc]
      rw [e]
      have e2 : (env.cells.lookup n).getD 0 = c := by rw [hc]; rfl
      rw [e2]
      exact ih _
    · rw [if_neg hk, if_neg hk]
      exact ih _
theorem closure_ok {scope : Scope} {env : Env} (h : ∀ y ∈ scope.names, y.2 = .free → ∃ c, env.cells.lookup y.1 = some c) : closureFor scope env = pure (cloFrom env.cells scope.names []) := by
  simp only [closureFor]
  rw [closure_loop env _ (fun n k c => rfl) scope.names [] h]
  rfl

theorem mem_lookup {α : Type} : ∀ {l : List (Str × α)} {n : Str} {c : α}, (n, c) ∈ l → ∃ c', l.lookup n = some c'
  | (k, v) :: r, n, c, h => by
    rw [List.lookup_cons]
    cases hb : n == k with
    | true => exact ⟨_, rfl⟩
    | false =>
      rcases List.mem_cons.mp h with e | h
      · cases e; simp at hb
      · exact mem_lookup h

theorem cloFrom_mem {cells : List (Str × Addr)} : ∀ {names : List (Str × NameKind)} {acc : List (Str × Addr)} {n : Str} {c : Addr}, (n, c) ∈ cloFrom cells names acc → (n, c) ∈ acc ∨ ((n, .free) ∈ names ∧ c = (cells.lookup n).getD 0)
  | [], _, _, _, h => .inl h
  | (m, k) :: r, acc, n, c, h => by
    unfold cloFrom at h
    split at h
    · rename_i hk
      have hk : k = .free := by simpa using hk
      rcases cloFrom_mem h with h | ⟨h1, h2⟩
      · rcases List.mem_cons.mp h with e | h
        · cases e; exact .inr ⟨hk ▸ List.mem_cons_self, rfl⟩
        · exact .inl h
      · exact .inr ⟨List.mem_cons_of_mem _ h1, h2⟩
    · rcases cloFrom_mem h with h | ⟨h1, h2⟩
      · exact .inl h
      · exact .inr ⟨List.mem_cons_of_mem _ h1, h2⟩
theorem cloFrom_acc {cells : List (Str × Addr)} : ∀ {names : List (Str × NameKind)} {acc : List (Str × Addr)} {p : Str × Addr}, p ∈ acc → p ∈ cloFrom cells names acc
  | [], _, _, h => h
  | (m, k) :: r, acc, p, h => by
    unfold cloFrom
    split
    · exact cloFrom_acc (List.mem_cons_of_mem _ h)
    · exact cloFrom_acc h
theorem cloFrom_has {cells : List (Str × Addr)} : ∀ {names : List (Str × NameKind)} {acc : List (Str × Addr)} {n : Str}, (n, .free) ∈ names → (n, (cells.lookup n).getD 0) ∈ cloFrom cells names acc
  | (m, k) :: r, acc, n, h => by
    unfold cloFrom
    rcases List.mem_cons.mp h with e | h
    · cases e
      exact cloFrom_acc List.mem_cons_self
    · split
      · exact cloFrom_has h
      · exact cloFrom_has h

theorem cells_mem : ∀ {names : List (Str × NameKind)} {h : Heap} {acc : List (Str × Addr)} {x : Str} {c : Addr}, (x, c) ∈ cellsFrom h.objs.size names acc →
    (x, c) ∈ acc ∨ ((x, .cell) ∈ names ∧ h.objs.size ≤ c ∧ CellAt (pushCells h names) c none)
  | [], _, _, _, _, h => .inl h
  | (n, k) :: r, h, acc, x, c, hm => by
    unfold cellsFrom at hm
    unfold pushCells
    split at hm
    · rename_i hk
      rw [if_pos hk]
      have hk : k = .cell := by simpa using hk
      rw [← Heap.size_push h { cls := .type "cell", data := .cell none }] at hm
      rcases cells_mem hm with hm | ⟨h1, h2, h3⟩
      · rcases List.mem_cons.mp hm with e | hm
        · cases e
          exact .inr ⟨hk ▸ List.mem_cons_self, Nat.le_refl _, _, pushCells_keeps r _ _ _ (Heap.get?_push_size _ rfl), rfl⟩
        · exact .inl hm
      · rw [Heap.size_push] at h2
        exact .inr ⟨List.mem_cons_of_mem _ h1, Nat.le_of_succ_le h2, h3⟩
    · rename_i hk
      rw [if_neg hk]
      rcases cells_mem hm with hm | ⟨h1, h2, h3⟩
      · exact .inl hm
      · exact .inr ⟨List.mem_cons_of_mem _ h1, h2, h3⟩
theorem cells_acc : ∀ {names : List (Str × NameKind)} {n : Nat} {acc : List (Str × Addr)} {p : Str × Addr}, p ∈ acc → p ∈ cellsFrom n names acc
  | [], _, _, _, h => h
  | (m, k) :: r, n, acc, p, h => by
    unfold cellsFrom
    split
    · exact cells_acc (List.mem_cons_of_mem _ h)
    · exact cells_acc h
theorem cells_has : ∀ {names : List (Str × NameKind)} {n : Nat} {acc : List (Str × Addr)} {x : Str}, (x, .cell) ∈ names → ∃ c, (x, c) ∈ cellsFrom n names acc
  | (m, k) :: r, n, acc, x, h => by
    unfold cellsFrom
    rcases List.mem_cons.mp h with e | h
    · cases e
      exact ⟨n, cells_acc List.mem_cons_self⟩
    · split
      · exact cells_has h
      · exact cells_has h
theorem cells_inj : ∀ {names : List (Str × NameKind)} {h : Heap} {acc : List (Str × Addr)} {x y : Str} {c : Addr}, (∀ p ∈ acc, p.2 < h.objs.size) → (∀ x y c, (x, c) ∈ acc → (y, c) ∈ acc → x = y) →
    (x, c) ∈ cellsFrom h.objs.size names acc → (y, c) ∈ cellsFrom h.objs.size names acc → x = y
  | [], _, _, _, _, _, _, hi, h1, h2 => hi _ _ _ h1 h2
  | (n, k) :: r, h, acc, x, y, c, hl, hi, h1, h2 => by
    unfold cellsFrom at h1 h2
    split at h1
    · rename_i hk
      rw [if_pos hk] at h2
      rw [← Heap.size_push h { cls := .type "cell", data := .cell none }] at h1 h2
      refine cells_inj (h := h.push _) (fun p hp => ?_) (fun x y c a b => ?_) h1 h2
      · rw [Heap.size_push]
        rcases List.mem_cons.mp hp with rfl | hp
        · exact Nat.lt_succ_self _
        · exact Nat.lt_succ_of_lt (hl p hp)
      · rcases List.mem_cons.mp a with e | a <;> rcases List.mem_cons.mp b with e' | b
        · cases e; cases e'; rfl
        · cases e; exact absurd (hl _ b) (Nat.lt_irrefl _)
        · cases e'; exact absurd (hl _ a) (Nat.lt_irrefl _)
        · exact hi _ _ _ a b
    · rename_i hk
      rw [if_neg hk] at h2
      exact cells_inj hl hi h1 h2

theorem newEnv_comp {M : Model} {A : Around} {E : Value → Shared → Prop} {s : Shared} {scope : Scope} {globals : Addr} {closure : List (Str × Addr)} {qual : Str} {func : Option Addr} {code : Value} {around : Env} {builtins : Addr} {Q : Env → Shared → Prop}
    (h : Q (newEnv scope s.heap.objs.size globals (cellsFrom (s.heap.objs.size + 1) scope.names closure) qual func code (some around) builtins)
      { s with heap := pushCells (s.heap.push { cls := .type "dict", data := .dict #[] }) scope.names }) :
    wpAny M A (newFunctionEnv scope globals closure [] qual func code (some around) builtins) Q E s := by
  simp only [newFunctionEnv, Option.isSome_some, if_true]
  refine wpAny_bind (wpAny_alloc ?_)
  refine wpAny_bind (wpAny_layCells _ (fun n k c => rfl) scope.names closure _ _ ?_)
  rw [show ({ s with heap := s.heap.push { cls := .type "dict", data := .dict #[] } } : Shared).heap.objs.size = s.heap.objs.size + 1 from Heap.size_push ..]
  rw [List.forIn_nil]
  exact wpAny_bind (wpAny_pure (wpAny_pure h))

/-- every name of the written scope, in the scope that runs -/
theorem lookup_relS {sc : Scope} : ∀ {names : List (Str × NameKind)} {x : Str} {k : NameKind},
    (names.map fun (n, k) => if (k == NameKind.free && sc.kind == .function && sc.names.lookup n == some .cell) then (n, NameKind.cell) else (n, k)).lookup x = some k →
    ∃ k', names.lookup x = some k' ∧ (k = k' ∨ (k' = .free ∧ k = .cell))
  | [], _, _, h => by simp at h
  | (n, k₀) :: r, x, k, h => by
    have ih := @lookup_relS sc r x k
    have h' : List.lookup x ((if (k₀ == NameKind.free && sc.kind == .function && sc.names.lookup n == some .cell) = true then (n, NameKind.cell) else (n, k₀)) :: (r.map _)) = some k := h
    cases hx : x == n with
    | true =>
      simp only [List.lookup_cons, hx]
      by_cases hc : (k₀ == NameKind.free && sc.kind == .function && sc.names.lookup n == some .cell) = true
      · rw [if_pos hc] at h'
        simp only [List.lookup_cons, hx] at h'
        cases h'
        simp only [Bool.and_eq_true, beq_iff_eq] at hc
        exact ⟨k₀, rfl, .inr ⟨hc.1.1, rfl⟩⟩
      · rw [if_neg hc] at h'
        simp only [List.lookup_cons, hx] at h'
        cases h'
        exact ⟨_, rfl, .inl rfl⟩
    | false =>
      simp only [List.lookup_cons, hx]
      by_cases hc : (k₀ == NameKind.free && sc.kind == .function && sc.names.lookup n == some .cell) = true
      · rw [if_pos hc] at h'
        simp only [List.lookup_cons, hx] at h'
        exact ih h'
      · rw [if_neg hc] at h'
        simp only [List.lookup_cons, hx] at h'
        exact ih h'
/-- the names of a comprehension's block: its own (with their places in N), or captured -/
structure BlkOk (N : List Str) (sc scope : Scope) (own : List (Str × Nat)) : Prop where
  kind : scope.kind = .function
  uniq : ∀ y ∈ scope.names, scope.names.lookup y.1 = some y.2
  ix : ∀ p ∈ own, N[p.2]? = some p.1
  free : ∀ y ∈ scope.names, y.2 = .free → sc.names.lookup y.1 = some .cell ∨ sc.names.lookup y.1 = some .free
  own : ∀ y ∈ scope.names, y.2 = .local ∨ y.2 = .cell → y.1 ∈ own.map (·.1) ∨ y.1 ∉ N
/-- the slots of the block's own names forgotten -/
def wipe (σ : St) : List Nat → St
  | [] => σ
  | v :: vs => (wipe σ vs).set v none
theorem wipe_length (σ : St) : ∀ vs : List Nat, (wipe σ vs).length = σ.length
  | [] => rfl
  | v :: vs => by unfold wipe; rw [List.length_set, wipe_length σ vs]
theorem wipe_some {σ : St} {i : Nat} {x : V} : ∀ {vs : List Nat}, (wipe σ vs)[i]? = some (some x) → σ[i]? = some (some x) ∧ i ∉ vs
  | [], h => ⟨h, by simp⟩
  | v :: vs, h => by
    unfold wipe at h
    by_cases hi : v = i
    · subst hi
      by_cases hv : v < (wipe σ vs).length
      · rw [List.getElem?_set_self hv] at h; cases h
      · rw [List.getElem?_eq_none (by simpa using hv)] at h; cases h
    · rw [List.getElem?_set_ne hi] at h
      obtain ⟨h1, h2⟩ := wipe_some h
      exact ⟨h1, by simp only [List.mem_cons, not_or]; exact ⟨fun e => hi e.symm, h2⟩⟩

/-- the context of a block that starts at s, its iterator's objects at fp -/
abbrev Cx.blk (X : Cx) (s : Shared) (H : Hp) (scope : Scope) (cenv : Env) (fp : List Addr) : Cx := { X with s_0 := s, H_0 := H, env := cenv, outer := X.stack, ex := fp, fn := fun x => scope.names.lookup x == some .cell, pn := [], xe := fun _ _ => False }
section
variable {X : Cx} {pins : List (Addr × Obj)} {σ : St} {H : Hp} {s : Shared}
theorem block_start {scope : Scope} {own : List (Str × Nat)} {fp : List Addr} (I : Inv X pins σ H s) (ok : BlkOk X.N X.env.scope scope own) (hN : X.N.Nodup) (hfp : ∀ b ∈ fp, FpOk X pins H b ∧ b < s.heap.objs.size) :
    Inv (X.blk s H scope (compEnvC scope (cellsFrom (s.heap.objs.size + 1) scope.names (cloFrom X.env.cells scope.names [])) s.heap.objs.size X.env) fp) [] (wipe σ (own.map (·.2))) H { s with heap := pushCells (s.heap.push { cls := .type "dict", data := .dict #[] }) scope.names } := by
  have hfree : ∀ y ∈ scope.names, y.2 = .free → ∃ c, X.env.cells.lookup y.1 = some c := fun y hy e => by
    rcases ok.free y hy e with k | k
    · exact I.ok.has _ (.inl k)
    · exact I.ok.has _ (.inr k)
  generalize hcenv : compEnvC scope (cellsFrom (s.heap.objs.size + 1) scope.names (cloFrom X.env.cells scope.names [])) s.heap.objs.size X.env = cenv
  have kp : ∀ b o, s.heap.get? b = some o → (pushCells (s.heap.push { cls := .type "dict", data := .dict #[] }) scope.names).get? b = some o := fun b o e => pushCells_keeps _ _ _ _ (Heap.get?_push_of_some _ e)
  have hL : cenv.locals = s.heap.objs.size := by rw [← hcenv]; rfl
  have hcl : cenv.cells = cellsFrom (s.heap.objs.size + 1) scope.names (cloFrom X.env.cells scope.names []) := by rw [← hcenv]; rfl
  have hsc : cenv.scope = relS scope X.env.scope := by rw [← hcenv]; rfl
  rw [← Heap.size_push s.heap { cls := .type "dict", data := .dict #[] }] at hcl
  have cm : ∀ {y c}, (y, c) ∈ cloFrom X.env.cells scope.names [] → X.env.cells.lookup y = some c ∧ c < s.heap.objs.size := fun {y c} hm => by
    rcases cloFrom_mem hm with hm | ⟨h1, rfl⟩
    · cases hm
    · obtain ⟨c, hc⟩ := hfree _ h1 rfl
      rw [hc]
      obtain ⟨w, z⟩ := I.cell _ _ hc
      exact ⟨rfl, z.lt⟩
  have mem : ∀ {y c}, cenv.cells.lookup y = some c → (X.env.cells.lookup y = some c ∧ c < s.heap.objs.size) ∨ (s.heap.objs.size + 1 ≤ c ∧ CellAt (pushCells (s.heap.push { cls := .type "dict", data := .dict #[] }) scope.names) c none) := fun {y c} e => by
    rw [hcl] at e
    rcases cells_mem (PySem.mem_of_lookup e) with hm | ⟨_, h2, h3⟩
    · exact .inl (cm hm)
    · rw [Heap.size_push] at h2; exact .inr ⟨h2, h3⟩
  have look : ∀ {y}, scope.names.lookup y = some .free → ∃ c, cenv.cells.lookup y = some c ∧ X.env.cells.lookup y = some c := fun {y} hl => by
    have hy : (y, NameKind.free) ∈ scope.names := PySem.mem_of_lookup hl
    obtain ⟨c', e'⟩ := mem_lookup (cells_acc (names := scope.names) (n := (s.heap.push { cls := .type "dict", data := .dict #[] }).objs.size) (cloFrom_has (cells := X.env.cells) (acc := []) hy))
    rw [← hcl] at e'
    refine ⟨c', e', ?_⟩
    rw [hcl] at e'
    rcases cells_mem (PySem.mem_of_lookup e') with hm | ⟨h1, _, _⟩
    · exact (cm hm).1
    · have := ok.uniq _ h1
      rw [hl] at this; cases this
  have okB : (X.blk s H scope cenv fp).Ok := by
    refine ⟨I.ok.mod, by show cenv.scope.kind = _; rw [hsc]; exact ok.kind, by show cenv.globals = _; rw [← hcenv]; exact I.ok.glob, by show cenv.builtins = _; rw [← hcenv]; exact I.ok.blt, by show s.heap.objs.size ≤ cenv.locals; rw [hL]; exact Nat.le_refl _,
      fun y z c e1 e2 => ?_, fun y hy => ?_, fun y c z e => ?_, I.ok.hd, I.ok.frames, .inl rfl, fun b hb => ⟨?_, fun y c e z => ?_⟩, I.bs, Nat.le_trans I.ok.bsz I.sz, fun b o e hb => ?_, fun b hb z => ?_, I.stack, I.stkFree⟩
    · have e1 : cenv.cells.lookup y = some c := e1
      have e2 : cenv.cells.lookup z = some c := e2
      rw [hcl] at e1 e2
      refine cells_inj (fun p hp => ?_) (fun y z c a b => I.ok.inj y z c (cm a).1 (cm b).1) (PySem.mem_of_lookup e1) (PySem.mem_of_lookup e2)
      rw [Heap.size_push]
      exact Nat.lt_succ_of_lt (cm (y := p.1) (c := p.2) hp).2
    · show ∃ c, cenv.cells.lookup y = some c
      have key : ∀ k, cenv.kindOf y = some k → (k = .cell ∨ k = .free) → ∃ c, cenv.cells.lookup y = some c := fun k hk hk' => by
        unfold Env.kindOf at hk
        rw [hsc] at hk
        obtain ⟨k', e, r⟩ := lookup_relS hk
        have : k' = .cell ∨ k' = .free := by
          rcases r with rfl | ⟨rfl, _⟩
          · exact hk'
          · exact .inr rfl
        rcases this with rfl | rfl
        · obtain ⟨c, hm⟩ := cells_has (n := (s.heap.push { cls := .type "dict", data := .dict #[] }).objs.size) (acc := cloFrom X.env.cells scope.names []) (PySem.mem_of_lookup e)
          obtain ⟨c', e'⟩ := mem_lookup hm
          exact ⟨c', by rw [hcl]; exact e'⟩
        · obtain ⟨c, h1, _⟩ := look e
          exact ⟨c, h1⟩
      rcases hy with hy | hy
      · exact key _ hy (.inl rfl)
      · exact key _ hy (.inr rfl)
    · have z : (scope.names.lookup y == some NameKind.cell) = true := z
      have z : scope.names.lookup y = some .cell := by simpa using z
      have e : cenv.cells.lookup y = some c := e
      rw [hcl] at e
      rcases cells_mem (PySem.mem_of_lookup e) with hm | ⟨_, h2, _⟩
      · rcases cloFrom_mem hm with hm | ⟨h1, _⟩
        · cases hm
        · have q := ok.uniq _ h1
          rw [z] at q; cases q
      · rw [Heap.size_push] at h2
        exact Nat.le_of_succ_le h2
    · show b ≠ cenv.locals
      rw [hL]; exact Nat.ne_of_lt (hfp b hb).2
    · have e : cenv.cells.lookup y = some c := e
      rcases mem e with ⟨h1, _⟩ | ⟨h1, _⟩
      · exact (hfp b hb).1.2.2.2.2.1 y c h1 z
      · have h2 : s.heap.objs.size + 1 ≤ b := by rw [← z]; exact h1
        exact absurd (Nat.lt_of_lt_of_le (hfp b hb).2 (Nat.le_of_succ_le h2)) (Nat.lt_irrefl _)
    · rcases (hfp b hb).1.2.2.2.1 with z | z
      · exact I.ok.noex b o e z
      · exact absurd (Nat.lt_of_lt_of_le (Heap.lt_size e) (Nat.le_trans I.ok.bsz z)) (Nat.lt_irrefl _)
    · rcases List.mem_cons.mp (I.stkSub b z) with z | z
      · exact (hfp b hb).1.2.1 z
      · exact (hfp b hb).1.2.2.1 z
  refine ⟨okB, rfl, I.bare, Un.kept kp, ⟨fun _ => none, ?_, fun i y av e1 e2 e3 => ?_⟩, fun y c e => ?_, ?_, fun y c e => ?_, fun p hp => ?_, I.hok.kept kp, by rw [wipe_length]; exact I.len⟩
  · show Heap.Ns _ cenv.locals _
    rw [hL]
    exact Heap.Ns.keeps (Heap.Ns.new ..) fun b o e => pushCells_keeps _ _ _ _ e
  · obtain ⟨e2, hne⟩ := wipe_some e2
    have hfr : scope.names.lookup y = some .free ∧ (cenv.kindOf y = some .cell ∨ cenv.kindOf y = some .free) := by
      have key : ∀ k, cenv.scope.names.lookup y = some k → k = .local ∨ k = .cell ∨ k = .free → scope.names.lookup y = some .free ∧ (cenv.kindOf y = some .cell ∨ cenv.kindOf y = some .free) := fun k hk hk' => by
        have hk0 := hk
        rw [hsc] at hk
        obtain ⟨k', e, r⟩ := lookup_relS hk
        have no : ¬ (k' = .local ∨ k' = .cell) := fun hh => by
          rcases ok.own _ (PySem.mem_of_lookup e) hh with e' | e'
          · obtain ⟨p, hp, hpy⟩ := List.mem_map.mp e'
            have e3 := ok.ix p hp
            have : p.1 = y := hpy
            rw [this] at e3
            exact hne (List.mem_map.mpr ⟨p, hp, nodup_ix hN e3 e1⟩)
          · exact e' (List.mem_of_getElem? e1)
        rcases r with rfl | ⟨rfl, rfl⟩
        · rcases hk' with rfl | rfl | rfl
          · exact absurd (.inl rfl) no
          · exact absurd (.inr rfl) no
          · exact ⟨e, .inr hk0⟩
        · exact ⟨e, .inl hk0⟩
      have e3 : Vis cenv.scope y := e3
      rcases e3 with e3 | e3 | e3
      · exact key _ e3 (.inl rfl)
      · exact key _ e3 (.inr (.inl rfl))
      · exact key _ e3 (.inr (.inr rfl))
    obtain ⟨m, hn, hl⟩ := I.loc
    have hvis : Vis X.env.scope y := (ok.free _ (PySem.mem_of_lookup hfr.1) rfl).elim (fun k => .inr (.inl k)) (fun k => .inr (.inr k))
    obtain ⟨w, r, q⟩ := hl i y av e1 e2 hvis
    refine ⟨w, r, .inr ⟨hfr.2, ?_⟩⟩
    obtain ⟨c, h1, h2⟩ := look hfr.1
    rcases q with ⟨k, _⟩ | ⟨_, c', e', z⟩
    · have k : X.env.scope.names.lookup y = some .local := k
      rcases ok.free _ (PySem.mem_of_lookup hfr.1) rfl with k' | k' <;> rw [show X.env.scope.names.lookup y = _ from k'] at k <;> cases k
    · rw [h2] at e'; cases e'
      exact ⟨c, h1, z.keeps kp⟩
  · have e : cenv.cells.lookup y = some c := e
    rcases mem e with ⟨h1, _⟩ | ⟨_, z⟩
    · obtain ⟨w, z⟩ := I.cell y c h1
      exact ⟨w, z.keeps kp⟩
    · exact ⟨_, z⟩
  · show H cenv.locals = none
    rw [hL]; exact I.hok.fresh (Nat.le_refl _)
  · have e : cenv.cells.lookup y = some c := e
    rcases mem e with ⟨h1, _⟩ | ⟨h1, _⟩
    · exact I.freeC y c h1
    · exact I.hok.fresh (Nat.le_of_succ_le h1)
  · exact absurd (show p ∈ ([] : List (Addr × Obj)) ++ [] from hp) (by simp)

/-- an item appended to a tracked list -/
theorem app_ok {E : Value → Shared → Prop} {D : Addr} {xs : List V} {y : V} {v : Value} {Q : Value → Shared → Prop} (I : Inv X pins σ H s) (hD : H D = some (.lst xs)) (hz : xs.length < sizeLine) (r : RelV y v)
    (h : ∀ s', Inv X pins σ (upd H D (.lst (xs ++ [y]))) s' → Q .none s') : wpAny (model X.prog X.w) X.A (call (.builtin "list.append") [.ref D, v]) Q E s := by
  obtain ⟨hz', its, n, ri, e⟩ := I.hok D _ hD
  have hl := ri.length
  refine append_at (hsz := by rw [List.size_toArray]; omega) e fun h' sb ho' => ?_
  refine h { s with heap := h' } (I.write (t' := s.toks) (by rw [hD]; trivial) (.inl rfl) (fun b u hb q => (sb.2 b hb).trans q) ⟨_, ho'⟩ ⟨by rw [List.length_append]; exact hz, its ++ [v], n + 1, ri.append (.cons r .nil), ?_⟩)
  rw [ho']
  simp

/-- a clause's tests -/
def PTs (X : Cx) (ifs : List Expr) (t : TT) : Prop :=
  ∀ (pins : List (Addr × Obj)) (s : Shared) (σ : St) (H : Hp) (Q : Bool → Hp → Prop), Inv X pins σ H s → t σ H Q →
    wpAny (model X.prog X.w) X.A (forIn ifs true fun c r => if r = true then do let ok ← isTrue c X.env (eval c X.env); pure (ForInStep.yield ok) else pure (ForInStep.yield r)) (TP X pins σ Q) X.xe s
def tYes : TT := fun _ H Q => Q true H
theorem pts_nil : PTs X [] tYes := fun _ _ _ H _ I h => wpAny_tests_nil ⟨H, I, h⟩
end

theorem thnF {α : Type} {t : Sem α} {Q Q' : α → Shared → Prop} {M : Model} {A : Around} {E : Value → Shared → Prop} {s : Shared} (h : wpAny M A t Q (fun _ _ => False) s) (hQ : ∀ a s, Q a s → Q' a s) : wpAny M A t Q' E s := wpAny_mono h hQ fun _ _ z => False.elim z

/-- the loop of a list comprehension's block, the target of any form (codeAny_compLoop_tests asks a target that no tuple goes to; statement and proof follow it, PyProof/CompMap.lean:41-61, with the step letOwnedTupleGo kept) -/
theorem compLoop_any {prog : Program} {w : World} {A : Around} {R : Result → Shared → Prop} {s : Shared} {elt target iter : Expr} {ifs : List Expr} {scope : Scope} {pos : Pos} {it acc : Value} {env : Env} (I : Nat → Shared → Prop)
    (turn : ∀ n s, I n s → wpAny (model prog w) A (pyNext it) (fun r s₁ => match r with
      | none => R (.ok .next) s₁
      | some v => wpAny (model prog w) A (letOwnedTupleGo target it v) (fun _ s₁' => wpAny (model prog w) A (assign target env v) (fun _ s₂ =>
          wpAny (model prog w) A (forIn ifs true fun c r => if r = true then do let ok ← isTrue c env (eval c env); pure (ForInStep.yield ok) else pure (ForInStep.yield r)) (fun ok s₃ =>
            if ok = true then wpAny (model prog w) A (eval elt env) (fun x s₄ =>
              wpAny (model prog w) A (call (.builtin "list.append") [acc, x]) (fun _ s₅ => ∃ m, m < n ∧ I m s₅) (notedBy (model prog w) A env fun e s' => R (.error e) s') s₄) (notedBy (model prog w) A env fun e s' => R (.error e) s') s₃
            else ∃ m, m < n ∧ I m s₃) (notedBy (model prog w) A env fun e s' => R (.error e) s') s₂) (notedBy (model prog w) A env fun e s' => R (.error e) s') s₁') (notedBy (model prog w) A env fun e s' => R (.error e) s') s₁) (notedBy (model prog w) A env fun e s' => R (.error e) s') s)
    (n : Nat) (h : I n s) :
    codeAny (model prog w) A (.compLoop (.ListComp elt [⟨target, iter, ifs, 0⟩] scope pos) 0 it acc env) R s := by
  refine codeAny_loop rfl I (fun n s hI => ?_) n h
  show wpAny _ A ((compTurn (.ListComp elt [⟨target, iter, ifs, 0⟩] scope pos) 0 it acc env).onRaise (fun x => do noteFrame x env; theTreesLotGoes x)) _ _ s
  refine wpAny_noted ?_
  rw [compTurn_list]
  refine wpAny_bind (wpAny_standAt (wpAny_bind (wpAny_mono (turn n s hI) (fun r s₁ h₁ => ?_) fun _ _ h' => h')))
  cases r with
  | none => exact wpAny_pure h₁
  | some v =>
    refine wpAny_bind (wpAny_mono h₁ (fun _ s₁' h₁' => ?_) fun _ _ h' => h')
    refine wpAny_bind (wpAny_mono h₁' (fun _ s₂ h₂ => wpAny_bind (wpAny_mono h₂ (fun ok s₃ h₃ => ?_) fun _ _ h' => h')) fun _ _ h' => h')
    cases ok with
    | false => exact wpAny_pure ⟨rfl, h₃⟩
    | true =>
      exact wpAny_bind (wpAny_bind (wpAny_mono h₃ (fun x s₄ h₄ => wpAny_bind (wpAny_mono h₄ (fun _ s₅ h₅ => wpAny_pure (wpAny_pure ⟨rfl, h₅⟩)) fun _ _ h' => h')) fun _ _ h' => h'))

section
variable {X : Cx}
/-- [elt for target in iter if ..]: D the new list; W by the turn and a measure, Nx what a turn is to reach -/
def tLc (wi : TI) (g : TG) (tt : TT) (te : TE) (vs : List Nat) : TE := fun σ H Q => wi σ H fun J H1 => ∀ D, H1 D = none → ∃ W : Nat → Nat → Hp → Prop, (∃ m, W 0 m (upd H1 D (.lst []))) ∧ ∀ i m H, W i m H →
  (J.stop i H ∧ Q (.ref D) H) ∨ (J.go i H ∧ ∃ Nx : Hp → Prop, (∀ H', Nx H' → ∃ m', m' < m ∧ W (i + 1) m' H') ∧ ∀ x H', J.yld i H x H' → g x (wipe σ vs) H' fun σ2 H2 => wipe σ2 vs = wipe σ vs ∧ tt σ2 H2 fun b H3 =>
    if b = true then te σ2 H3 fun y H4 => ∃ acc, H4 D = some (.lst acc) ∧ acc.length < sizeLine ∧ Nx (upd H4 D (.lst (acc ++ [y]))) else Nx H3)
end

/-! ### the forms one uses -/
/-- over a list that the block leaves as it is -/
theorem lc_list {K : PySem.W.Frag} {a : Addr} {xs : List V} {g : TG} {tt : TT} {te : TE} {vs : List Nat} {σ : St} {H1 : Hp} {D : Addr} {Qd : Hp → Prop} (Pv : Nat → Hp → Prop) (h0 : Pv 0 (upd H1 D (.lst []))) (hl : ∀ i H, i ≤ xs.length → Pv i H → SqL K H a xs)
    (hs : ∀ i x H, xs[i]? = some x → Pv i H → g x (wipe σ vs) H fun σ2 H2 => wipe σ2 vs = wipe σ vs ∧ tt σ2 H2 fun b H3 =>
      if b = true then te σ2 H3 fun y H4 => ∃ acc, H4 D = some (.lst acc) ∧ acc.length < sizeLine ∧ Pv (i + 1) (upd H4 D (.lst (acc ++ [y]))) else Pv (i + 1) H3) (hd : ∀ H, Pv xs.length H → Qd H) :
    ∃ W : Nat → Nat → Hp → Prop, (∃ m, W 0 m (upd H1 D (.lst []))) ∧ ∀ i m H, W i m H →
      ((Itl K a).stop i H ∧ Qd H) ∨ ((Itl K a).go i H ∧ ∃ Nx : Hp → Prop, (∀ H', Nx H' → ∃ m', m' < m ∧ W (i + 1) m' H') ∧ ∀ x H', (Itl K a).yld i H x H' → g x (wipe σ vs) H' fun σ2 H2 => wipe σ2 vs = wipe σ vs ∧ tt σ2 H2 fun b H3 =>
        if b = true then te σ2 H3 fun y H4 => ∃ acc, H4 D = some (.lst acc) ∧ acc.length < sizeLine ∧ Nx (upd H4 D (.lst (acc ++ [y]))) else Nx H3) := by
  refine ⟨fun i m H => m = xs.length - i ∧ i ≤ xs.length ∧ Pv i H, ⟨xs.length, by simp, Nat.zero_le _, h0⟩, ?_⟩
  rintro i m H ⟨rfl, hi, p⟩
  have q := hl i H hi p
  by_cases hlt : i < xs.length
  · refine .inr ⟨⟨xs, xs[i], q, by simp [hlt]⟩, Pv (i + 1), fun H' p' => ⟨xs.length - (i + 1), by omega, rfl, hlt, p'⟩, fun x H' y => ?_⟩
    obtain ⟨e, y⟩ := y
    subst e
    exact hs i x _ (y xs q) p
  · have e : i = xs.length := by omega
    subst e
    exact .inl ⟨⟨xs, q, Nat.le_refl _⟩, hd H p⟩
def blkC (N : List Str) (sc scope : Scope) (own : List (Str × Nat)) : Bool :=
  (match scope.kind with | .function => true | _ => false) && (scope.names.all fun y => decide (scope.names.lookup y.1 = some y.2)) && (own.all fun p => decide (N[p.2]? = some p.1)) &&
    (scope.names.all fun y => match y.2 with
      | .free => (match sc.names.lookup y.1 with | some .cell => true | some .free => true | _ => false)
      | .local => decide (y.1 ∈ own.map (·.1)) || decide (y.1 ∉ N)
      | .cell => decide (y.1 ∈ own.map (·.1)) || decide (y.1 ∉ N)
      | _ => true)
theorem blkOk_by {N : List Str} {sc scope : Scope} {own : List (Str × Nat)} (h : blkC N sc scope own = true) : BlkOk N sc scope own := by
  unfold blkC at h
  simp only [Bool.and_eq_true, List.all_eq_true, decide_eq_true_eq] at h
  obtain ⟨⟨⟨h1, h2⟩, h3⟩, h4⟩ := h
  refine ⟨?_, h2, h3, fun y hy e => ?_, fun y hy e => ?_⟩
  · split at h1
    · assumption
    · cases h1
  · have q := h4 y hy
    simp only [e] at q
    split at q <;> first | exact .inl (by assumption) | exact .inr (by assumption) | cases q
  · have q := h4 y hy
    rcases e with e | e <;> (simp only [e, Bool.or_eq_true, decide_eq_true_eq] at q; exact q)
end L2

namespace L2
open PySem PySem.Spec PyProof.Rows

section
variable {prog : Program} {w : World} {A : Around} {R : Result → Shared → Prop} {s : Shared} {elt t0 i0 t1 i1 : Expr} {ifs0 ifs1 : List Expr} {scope : Scope} {pos : Pos} {it acc : Value} {env : Env}
end

section
variable {X : Cx}
end
end L2

namespace L2
open PySem PySem.Spec PyProof.Rows

/-! ### lists of pairs as tables -/
section
variable {κ : Type} [DecidableEq κ]
def valV (kvs : List (κ × V)) (k : κ) : Option V := (kvs.find? fun kv => decide (kv.1 = k)).map (·.2)
/-- in its place, or at the end -/
def putK (kvs : List (κ × V)) (k : κ) (v : V) : List (κ × V) :=
  if (kvs.any fun kv => decide (kv.1 = k)) = true then kvs.map (fun kv => if kv.1 = k then (kv.1, v) else kv) else kvs ++ [(k, v)]
def dropK (kvs : List (κ × V)) (k : κ) : List (κ × V) := kvs.filter fun kv => decide (kv.1 ≠ k)

theorem valV_pos {p : κ × V} {r : List (κ × V)} {k : κ} (e : p.1 = k) : valV (p :: r) k = some p.2 := by simp [valV, List.find?_cons, e]
theorem valV_neg {p : κ × V} {r : List (κ × V)} {k : κ} (e : ¬ p.1 = k) : valV (p :: r) k = valV r k := by simp [valV, List.find?_cons, e]
theorem valV_any (k : κ) : ∀ kvs : List (κ × V), (kvs.any fun kv => decide (kv.1 = k)) = (valV kvs k).isSome
  | [] => rfl
  | p :: r => by
    rw [List.any_cons]
    by_cases e : p.1 = k
    · simp only [valV_pos e, decide_eq_true e, Bool.true_or, Option.isSome_some]
    · rw [valV_neg e, decide_eq_false e, Bool.false_or]; exact valV_any k r
theorem RelO.isSome_eq {o : Option V} {u : Option Value} (r : RelO o u) : o.isSome = u.isSome := by
  cases o with
  | none => cases u with
    | none => rfl
    | some _ => exact (show False from r).elim
  | some _ => cases u with
    | none => exact (show False from r).elim
    | some _ => rfl
theorem RelO.getD {o : Option V} {u : Option Value} {d : V} {d' : Value} (r : RelO o u) (rd : RelV d d') : RelV (o.getD d) (u.getD d') := by
  cases o with
  | none => cases u with
    | none => exact rd
    | some _ => exact (show False from r).elim
  | some _ => cases u with
    | none => exact (show False from r).elim
    | some _ => exact r

/-- raw tables of the same keys -/
theorem KV.val {kvs : List (κ × V)} {vs : List (κ × Value)} (r : KV kvs vs) (k : κ) : RelO (valV kvs k) (valueAt vs k) := by
  unfold KV at r
  induction r with
  | nil => exact True.intro
  | @cons p q ps qs h t ih =>
    obtain ⟨h1, h2⟩ := h
    by_cases e : p.1 = k
    · have e' : q.1 = k := h1.symm.trans e
      have b : valueAt (q :: qs) k = some q.2 := by simp [valueAt, List.find?_cons, e']
      rw [valV_pos e, b]; exact h2
    · have e' : ¬ q.1 = k := fun z => e (h1.trans z)
      have b : valueAt (q :: qs) k = valueAt qs k := by simp [valueAt, List.find?_cons, e']
      rw [valV_neg e, b]; exact ih
theorem KV.any {kvs : List (κ × V)} {vs : List (κ × Value)} (r : KV kvs vs) (k : κ) : (kvs.any fun kv => decide (kv.1 = k)) = vs.any fun kv => decide (kv.1 = k) := by
  unfold KV at r
  induction r with
  | nil => rfl
  | cons h t ih => rw [List.any_cons, List.any_cons, ih, h.1]
theorem KV.repl {kvs : List (κ × V)} {vs : List (κ × Value)} (r : KV kvs vs) (k : κ) {y : V} {u : Value} (ry : RelV y u) :
    KV (kvs.map fun kv => if kv.1 = k then (kv.1, y) else kv) (vs.map fun kv => if kv.1 = k then (kv.1, u) else kv) := by
  unfold KV at r ⊢
  induction r with
  | nil => exact .nil
  | @cons p q ps qs h t ih =>
    rw [List.map_cons, List.map_cons]
    refine .cons ?_ ih
    obtain ⟨h1, h2⟩ := h
    by_cases e : p.1 = k
    · rw [if_pos e, if_pos (h1.symm.trans e)]; exact ⟨h1, ry⟩
    · rw [if_neg e, if_neg (fun z => e (h1.trans z))]; exact ⟨h1, h2⟩
theorem KV.put {kvs : List (κ × V)} {vs : List (κ × Value)} (r : KV kvs vs) (k : κ) {y : V} {u : Value} (ry : RelV y u) : KV (putK kvs k y) (stored vs k u) := by
  unfold putK stored
  rw [r.any k]
  by_cases e : (vs.any fun kv => decide (kv.1 = k)) = true
  · rw [if_pos e, if_pos e]; exact r.repl k ry
  · rw [if_neg e, if_neg e]; exact Paired.snoc r ⟨rfl, ry⟩
theorem KV.drop {kvs : List (κ × V)} {vs : List (κ × Value)} (r : KV kvs vs) (k : κ) : KV (dropK kvs k) (without vs k) := by
  unfold KV at r ⊢
  unfold dropK without
  induction r with
  | nil => exact .nil
  | @cons p q ps qs h t ih =>
    obtain ⟨h1, h2⟩ := h
    rw [List.filter_cons, List.filter_cons]
    by_cases e : p.1 = k
    · have a : ¬ decide (p.1 ≠ k) = true := by simp [e]
      have b : ¬ decide (q.1 ≠ k) = true := by simp [h1.symm.trans e]
      rw [if_neg a, if_neg b]; exact ih
    · have e' : ¬ q.1 = k := fun z => e (h1.trans z)
      have a : decide (p.1 ≠ k) = true := by simp [e]
      have b : decide (q.1 ≠ k) = true := by simp [e']
      rw [if_pos a, if_pos b]; exact .cons ⟨h1, h2⟩ ih
theorem KV.keys {kvs : List (κ × V)} {vs : List (κ × Value)} (r : KV kvs vs) : kvs.map (·.1) = vs.map (·.1) := by
  unfold KV at r
  induction r with
  | nil => rfl
  | cons h t ih => rw [List.map_cons, List.map_cons, ih, h.1]
theorem KV.length {kvs : List (κ × V)} {vs : List (κ × Value)} (r : KV kvs vs) : kvs.length = vs.length := Paired.length r
end


/-! ### a tracked dict, its keys ints and texts or tuples of these -/
theorem kV_is {P : Program} {w : World} {k : Key} {u : Value} (r : RelV (kV k) u) : (mixKind P w).is k u = true := by
  cases k with
  | inl i => obtain ⟨t, e⟩ := (show ∃ t, u = Value.int i t from r); subst e; exact mixKind_int P w i t
  | inr x => obtain ⟨t, e⟩ := (show ∃ t, u = Value.str x t from r); subst e; exact mixKind_str P w x t
/-- raw entries of a dict with tuple keys -/
abbrev KT (H : Hp) : List (List Key × V) → List (List Key × Addr × Value) → Prop := Paired fun p q => p.1 = q.1 ∧ H q.2.1 = some (.tup (p.1.map kV)) ∧ RelV p.2 q.2.2
theorem KT.val {H : Hp} {kvs : List (List Key × V)} {xs : List (List Key × Addr × Value)} (r : KT H kvs xs) (k : List Key) : RelO (valV kvs k) ((atKey xs k).map (·.2)) := by
  induction r with
  | nil => exact True.intro
  | @cons p q ps qs h t ih =>
    obtain ⟨h1, _, h2⟩ := h
    by_cases e : p.1 = k
    · have e' : q.1 = k := h1.symm.trans e
      have b : atKey (q :: qs) k = some q.2 := by simp [atKey, List.find?_cons, e']
      rw [valV_pos e, b]; exact h2
    · have e' : ¬ q.1 = k := fun z => e (h1.trans z)
      have b : atKey (q :: qs) k = atKey qs k := by simp [atKey, List.find?_cons, e']
      rw [valV_neg e, b]; exact ih
theorem KT.repl {H : Hp} {kvs : List (List Key × V)} {xs : List (List Key × Addr × Value)} (r : KT H kvs xs) (k : List Key) {y : V} {u : Value} (ry : RelV y u) :
    KT H (kvs.map fun kv => if kv.1 = k then (kv.1, y) else kv) (xs.map (putAt k u)) := by
  induction r with
  | nil => exact .nil
  | @cons p q ps qs h t ih =>
    rw [List.map_cons, List.map_cons]
    refine .cons ?_ ih
    obtain ⟨h1, h2, h3⟩ := h
    unfold putAt
    by_cases e : p.1 = k
    · rw [if_pos e, if_pos (h1.symm.trans e)]; exact ⟨h1, h2, ry⟩
    · rw [if_neg e, if_neg (fun z => e (h1.trans z))]; exact ⟨h1, h2, h3⟩
theorem KT.put {H : Hp} {kvs : List (List Key × V)} {xs : List (List Key × Addr × Value)} (r : KT H kvs xs) (k : List Key) {b : Addr} {y : V} {u : Value} (hb : H b = some (.tup (k.map kV))) (ry : RelV y u) :
    KT H (putK kvs k y) (storedH xs k b u) := by
  have e : (kvs.any fun kv => decide (kv.1 = k)) = (atKey xs k).isSome := by
    rw [valV_any, (r.val k).isSome_eq, Option.isSome_map]
  unfold putK storedH
  rw [e]
  by_cases q : (atKey xs k).isSome = true
  · rw [if_pos q, if_pos q]; exact r.repl k ry
  · rw [if_neg q, if_neg q]; exact Paired.snoc r ⟨rfl, hb, ry⟩
theorem KT.keeps {H H' : Hp} {kvs : List (List Key × V)} {xs : List (List Key × Addr × Value)} (r : KT H kvs xs) (ht : ∀ b ys, H b = some (.tup ys) → H' b = some (.tup ys)) : KT H' kvs xs :=
  Paired.mapP r fun _ _ z => ⟨z.1, ht _ _ z.2.1, z.2.2⟩

section
variable {P : Program} {w : World} {H : Hp} {h : Heap} {a : Addr}
end

/-- what the dict at a holds at the key y -/
def DGet (H : Hp) (a : Addr) (y : V) (r : Option V) : Prop :=
  (∃ kvs k, Rd H a (.dK kvs) ∧ y = kV k ∧ r = valV kvs k) ∨ ∃ kvs k b, Rd H a (.dT kvs) ∧ y = .ref b ∧ H b = some (.tup (k.map kV)) ∧ r = valV kvs k
/-- the heap behind a[y] = v -/
def DPut (H : Hp) (a : Addr) (y v : V) (H' : Hp) : Prop :=
  (∃ kvs k, H a = some (.dK kvs) ∧ y = kV k ∧ kvs.length < sizeLine ∧ H' = upd H a (.dK (putK kvs k v))) ∨
  ∃ kvs k b, H a = some (.dT kvs) ∧ y = .ref b ∧ H b = some (.tup (k.map kV)) ∧ kvs.length < sizeLine ∧ H' = upd H a (.dT (putK kvs k v))
theorem DGet.k {H : Hp} {a : Addr} {kvs : List (Key × V)} {k : Key} (e : H a = some (.dK kvs)) : DGet H a (kV k) (valV kvs k) := .inl ⟨kvs, k, .inl e, rfl, rfl⟩
theorem DGet.t {H : Hp} {a b : Addr} {kvs : List (List Key × V)} {k : List Key} (e : H a = some (.dT kvs)) (eb : H b = some (.tup (k.map kV))) : DGet H a (.ref b) (valV kvs k) := .inr ⟨kvs, k, b, .inl e, rfl, eb, rfl⟩
theorem DPut.k {H : Hp} {a : Addr} {kvs : List (Key × V)} {k : Key} {v : V} (e : H a = some (.dK kvs)) (hl : kvs.length < sizeLine) : DPut H a (kV k) v (upd H a (.dK (putK kvs k v))) := .inl ⟨kvs, k, e, rfl, hl, rfl⟩
theorem DPut.t {H : Hp} {a b : Addr} {kvs : List (List Key × V)} {k : List Key} {v : V} (e : H a = some (.dT kvs)) (eb : H b = some (.tup (k.map kV))) (hl : kvs.length < sizeLine) :
    DPut H a (.ref b) v (upd H a (.dT (putK kvs k v))) := .inr ⟨kvs, k, b, e, rfl, eb, hl, rfl⟩


section
variable {X : Cx} {pins : List (Addr × Obj)} {σ : St} {H : Hp} {s : Shared} {a : Addr} {y v : V} {u r : Value} {o : Option V} {A : Around} {E : Value → Shared → Prop}

end

section
variable {X : Cx} {pins : List (Addr × Obj)} {σ : St} {H : Hp} {s : Shared} {a : Addr} {kvs : List (Key × V)} {k : Key} {u : Value} {A : Around} {E : Value → Shared → Prop}
end


/-! ### readings and rules -/
/-- the element of a subscription, not a slice -/
def NoSl (i : Expr) : Prop := ∀ ov iv, subscripted i false ov iv = operate [ov, iv] (getItem ov iv)
theorem subD_of {prog : Program} {w : World} {A : Around} {E : Value → Shared → Prop} {s : Shared} {env : Env} {value slice : Expr} {pos : Pos} {T id : String} {Q : Value → Shared → Prop}
    (hl : typeLookup (.type T) "__getitem__" = pure (some (.builtin id))) (hs : NoSl slice)
    (h : wpAny (model prog w) A (eval value env) (fun o s₁ => wpAny (model prog w) A (eval slice env) (fun i s₂ => s₂.TypeIs o T ∧ wpAny (model prog w) A (getItem o i) Q E s₂) E s₁) E s) :
    wpAny (model prog w) A (eval (.Subscript value slice pos) env) Q E s := by
  refine Subscript_ (wpAny_mono h (fun o s₁ h₁ => wpAny_mono h₁ (fun i s₂ h₂ => ?_) fun _ _ x => x) fun _ _ x => x)
  obtain ⟨hT, h₂⟩ := h₂
  unfold subscriptTail
  refine wpAny_bind ?_
  rw [getitemInPython_of_ne hT.not_modules]
  refine wpAny_bind (wpAny_specialOf hT hl ?_)
  have fin : wpAny (model prog w) A (subscripted slice false o i) (fun r s₃ => wpAny (model prog w) A (letTemporaryGo value o r >>= fun _ => pure r) Q E s₃) E s₂ := by
    rw [hs o i]
    exact wpAny_operating (wpAny_mono h₂ (fun r s₃ h₃ => wpAny_bind (wpAny_letTemporaryGo (wpAny_pure h₃))) fun _ _ x => x)
  first
    | exact wpAny_pure (wpAny_bind fin)
    | exact wpAny_bind (wpAny_pure (wpAny_bind fin))
    | exact wpAny_bind fin

section
variable {X : Cx} {o i e value : Expr} {pos pos' tpos : Pos} {td ty tv : TE}
end


/-! ### displays -/
section
variable {X : Cx} {pos : Pos}
end

/-! ### methods -/
/-- a method call o.m(e) of a built-in, with one argument: what must be seen of the text -/
structure M1 (X : Cx) (o : Expr) (m : Str) (apos : Pos) (e : Expr) (cpos : Pos) : Prop where
  base : attributeBase o m X.env (eval o X.env) = eval o X.env
  few : ((backTo cpos (starEach [e] X.env)).all (fun x => !x.1) && (backToKw cpos (keywordEach [] X.env)).all (fun x => x.1.isSome)
    && decide (([e] : List Expr).length + ([] : List Keyword).length + (if ([] : List Keyword).isEmpty then 0 else 1) < 30)) = true
  line : (apos.endLine == cpos.line) = true
  trees : backTo cpos (starEach [e] X.env) = [(false, eval e X.env)]
structure M2 (X : Cx) (o : Expr) (m : Str) (apos : Pos) (e f : Expr) (cpos : Pos) : Prop where
  base : attributeBase o m X.env (eval o X.env) = eval o X.env
  few : ((backTo cpos (starEach [e, f] X.env)).all (fun x => !x.1) && (backToKw cpos (keywordEach [] X.env)).all (fun x => x.1.isSome)
    && decide (([e, f] : List Expr).length + ([] : List Keyword).length + (if ([] : List Keyword).isEmpty then 0 else 1) < 30)) = true
  line : (apos.endLine == cpos.line) = true
  trees : backTo cpos (starEach [e, f] X.env) = [(false, eval e X.env), (false, eval f X.env)]

section
variable {X : Cx} {pins : List (Addr × Obj)} {σ : St} {H : Hp} {s : Shared} {a : Addr} {y d : V} {u r : Value} {o : Option V} {A : Around} {E : Value → Shared → Prop}
end

section
variable {X : Cx} {o e f : Expr} {apos cpos : Pos} {td ty tx : TE}
end

/-! ### dict(d): a copy -/
section
variable {X : Cx} {pins : List (Addr × Obj)} {σ : St} {H : Hp} {s : Shared} {a : Addr} {kvs : List (Key × V)} {A : Around} {E : Value → Shared → Prop}
end


section
variable {X : Cx} {pins : List (Addr × Obj)} {σ : St} {H : Hp} {s : Shared} {a : Addr} {y : V} {u : Value} {A : Around} {E : Value → Shared → Prop}
end
end L2

namespace L2
open PySem PySem.Spec PyProof.Rows

section
variable {prog : Program} {w : World} {A : Around} {E : Value → Shared → Prop}
end

section
variable {X : Cx}
end
end L2

namespace L2
open PySem PySem.Spec PyProof.Rows

section
variable {X : Cx} {pins : List (Addr × Obj)} {σ : St} {H : Hp} {s : Shared} {h' : Heap}
/-- .. and one new object is laid -/
theorem Inv.turnedNew {t' : Nat} {ch : List Addr} {T : Addr} {ob : HO} (I : Inv X pins σ H s) (k : ∀ b o, b ∉ ch → s.heap.get? b = some o → h'.get? b = some o) (hf : ∀ b ∈ ch, FpOk X pins H b) (hT : s.heap.objs.size ≤ T)
    (new : ObjOk X.prog X.w (upd H T ob) h' T ob) : Inv X pins σ (upd H T ob) { s with heap := h', toks := t' } := by
  have hn : H T = none := I.hok.fresh hT
  have nit : ∀ b u, H b = some u → b ∉ ch := fun b u e z => by
    have q := (hf b z).1
    rw [q] at e; cases e
  refine I.step (g' := s.gens) (d' := s.drawn) (ch := ch) (fun b hb => ⟨(hf b hb).2.2.2.1, (hf b hb).2.1, (hf b hb).2.2.2.2.1, (hf b hb).2.2.2.2.2⟩) (fun b o _ _ hc e _ => k b o hc e) (fun b o _ _ hc e _ => ⟨o.slots, k b o hc e⟩)
    (fun b o _ e n => ?_) (fun b o hc e => ⟨o, k b o hc e⟩) (fun b xs e => ?_) (fun b o u e => ?_) (fun b ps e => ⟨#[], ?_⟩) (fun m hm => ?_) (fun b u e => ?_) I.bare
  · rw [upd_ne (Nat.ne_of_lt (Nat.lt_of_lt_of_le (Heap.lt_size e) hT))]; exact n
  · rw [upd_ne (ne_of_none e hn)]; exact e
  · rw [upd_ne (ne_of_none e hn)]; exact e
  · rw [upd_ne (ne_of_none e hn), e]; simp
  · obtain ⟨o, es, ep, ho, r⟩ := hm
    exact ⟨o, es, ep, k _ o (fun z => (hf _ z).2.1 rfl) ho, r⟩
  · by_cases hb : b = T
    · subst hb
      rw [upd_same] at e
      cases e
      exact new
    · rw [upd_ne hb] at e
      refine (I.hok b u e).stay (fun c v hc q => k c v ?_ q) (fun c q => by rw [upd_ne (ne_of_none q hn)]; exact q) fun c xs q => by rw [upd_ne (ne_of_none q hn)]; exact q
      rcases hc with z | z
      · rw [z]; exact nit b u e
      · exact nit c _ z

/-! ### locking a thing while a statement runs -/
end
section
variable {X : Cx}
/-! ### one iterator just laid -/
end

/-! ### range with a step -/
/-- range(i, j, c): small bounds, n items -/
def RgC (i j c : Int) (n : Nat) : Prop := c ≠ 0 ∧ c.natAbs < 1073741824 ∧ Builtin.Range.small i j c = true ∧ Builtin.Range.rangeSize i j c = n
theorem RgC.neg {i j : Int} (ha : -(2 ^ 62) ≤ i) (ha' : i < 2 ^ 62) (hb : -(2 ^ 62) ≤ j) (hb' : j < 2 ^ 62) : RgC i j (-1) (i - j).toNat :=
  ⟨by decide, by decide, PySem.W.small_down ha ha' hb hb', PySem.W.rangeSize_downNat i j⟩
section
variable {X : Cx} {tg : Expr}
end
/-! ### reversed(list) -/
section
variable {X : Cx} {tg : Expr}
end

/-! ### a str -/
/-! ### a dict's keys: any dict's entries -/
section
variable {prog : Program} {w : World} {A : Around} {E : Value → Shared → Prop} {s : Shared}
end

/-! ### a locked dict -/
section
variable {X : Cx} {pins : List (Addr × Obj)} {σ : St} {H : Hp} {s : Shared} {d : Addr} {o : Obj}
end

section
variable {P : Program} {w : World} {K : PySem.W.Frag} {tg : Expr} {d : Addr} {o : Obj} {es : Array DictEntry} {ep : Nat}
end

/-! ### for k in d, d.keys(), d.values(), d.items() -/
section
variable {X : Cx} {tg e : Expr} {td : TE} {apos cpos : Pos}
end

/-! ### enumerate(list) -/
/-- the list at a as it stands at each turn, each item in a new pair -/
def Ite (K : PySem.W.Frag) (a : Addr) : It :=
  ⟨fun i H => ∃ (xs : List V) (x : V), SqL K H a xs ∧ xs[i]? = some x, fun i H v H' => ∃ T x, v = .ref T ∧ H T = none ∧ H' = upd H T (.tup [.int (i : Nat), x]) ∧ ∀ xs, SqL K H a xs → xs[i]? = some x, fun i H => ∃ xs : List V, SqL K H a xs ∧ xs.length ≤ i⟩
theorem turn_enum {P : Program} {w : World} {K : PySem.W.Frag} {elts : List Expr} {kk : Nat} {tpos : Pos} (a e it : Addr) :
    Turn P w K (.Tuple elts kk tpos) (Ite K a) [e, it] e (fun i h => (∃ old, IsEnum h e it ((i : Nat) : Int) old) ∧ h.IsListIter it a i ∧ e ≠ it) where
  mem := by simp
  obj := fun i h st b hb => by
    obtain ⟨⟨old, he⟩, ⟨o, ho, hc, hd⟩, _⟩ := st
    have e' : b = e ∨ b = it := by simpa using hb
    rcases e' with z | z
    · rw [z]; exact ⟨_, he, fun v q => nomatch q⟩
    · rw [z]; exact ⟨o, ho, fun v q => by rw [hd] at q; cases q⟩
  keep := fun i h h' st k => let ⟨⟨old, he⟩, hi, hne⟩ := st; ⟨⟨old, k e (by simp) _ he⟩, hi.at fun o q => k it (by simp) o q, hne⟩
  item := by
    intro X hP hw hK hc i pins s σ H E I hf st hg
    subst hP hw hK
    obtain ⟨⟨old, he⟩, hit, hne⟩ := st
    obtain ⟨xs, x, hq, hx⟩ := hg
    obtain ⟨its, rv, p, hz⟩ := I.list hq
    obtain ⟨u, hu, ru⟩ := rv.get hx
    have hel : e < s.heap.objs.size := Heap.lt_size he
    have hil : it < s.heap.objs.size := by obtain ⟨_, q, _⟩ := hit; exact Heap.lt_size q
    refine wpAny_pyNext_enum_item he hit p.isList (x := u) (by simpa using hu) hne fun h' ho hit' hT hsz hk => ?_
    refine ⟨_, rfl, wpAny_letOwnedTupleGo_enum (s := { s with heap := h', toks := s.toks + 1 }) ho fun h'' he' sb => ?_⟩
    have hT2 : h''.get? s.heap.objs.size = some { cls := .type "tuple", data := .seq #[.int i s.toks, u] } := (sb.2 _ (Nat.ne_of_gt hel)).trans hT
    have new : ObjOk X.prog X.w (upd H s.heap.objs.size (.tup [.int (i : Nat), x])) h'' s.heap.objs.size (.tup [.int (i : Nat), x]) :=
      ⟨by show 2 ≤ sizeLine; decide, [.int i s.toks, u], .cons ⟨_, rfl⟩ (.cons ru .nil), ⟨_, hT2, rfl, _, rfl⟩⟩
    have I1 : Inv X pins σ (upd H s.heap.objs.size (.tup [.int (i : Nat), x])) { s with heap := h'', toks := s.toks + 1 } :=
      I.turnedNew (ch := [e, it]) (fun b ob hb q => (sb.2 b (fun z => hb (by simp [z]))).trans (hk b ob (fun z => hb (by simp [z])) (fun z => hb (by simp [z])) q)) hf (Nat.le_refl _) new
    refine ⟨.ref s.heap.objs.size, _, I1, rfl, ⟨_, x, rfl, I.hok.fresh (Nat.le_refl _), rfl, fun ys hy => by rw [I.list_inj hy hq]; exact hx⟩, ⟨⟨u, ?_⟩, hit'.at fun o q => (sb.2 it (Ne.symm hne)).trans q, hne⟩, fun b hb => ?_⟩
    · have e1 : ((i + 1 : Nat) : Int) = (i : Int) + 1 := by omega
      rw [e1]; exact he'
    · have hb' : b < s.heap.objs.size := by
        have e' : b = e ∨ b = it := by simpa using hb
        rcases e' with z | z
        · rw [z]; exact hel
        · rw [z]; exact hil
      rw [upd_ne (Nat.ne_of_lt hb')]
      exact (hf b hb).1
  done := by
    intro X hP hw hK hc i pins s σ H E I hf st hg
    subst hP hw hK
    obtain ⟨⟨old, he⟩, hit, hne⟩ := st
    obtain ⟨xs, hq, hx⟩ := hg
    obtain ⟨its, rv, p, hz⟩ := I.list hq
    obtain ⟨f0, f1, f2, f3, f4, f5⟩ := hf it (by simp)
    have hl := rv.length
    exact wpAny_pyNext_enum_end (I.ok.hd hc) he hit p.isList (by simp; omega) fun h' eb => ⟨rfl, I.turned (t' := s.toks) (fun b o hb q => eb b o hb q) f0 f1 f3 f4 f5⟩
  self := fun A i s Q E st h => let ⟨⟨_, he⟩, _⟩ := st; wpAny_pyIter_enum he h
def iEnum (K : PySem.W.Frag) (ta : TA) : TI := fun σ H R => ta σ H fun vs H1 => ∃ a xs, vs = [.ref a] ∧ SqL K H1 a xs ∧ R (Ite K a) H1
theorem pi_enum {X : Cx} {e : Expr} {ta : TA} {p pos tpos : Pos} {elts : List Expr} {kk : Nat} (hg : Gl X "enumerate") (hm : X.mg "enumerate" = none) (ha : PA X [e] ta) (hs : starEach [e] X.env = [(false, eval e X.env)] := by rfl) :
    PI X (.Tuple elts kk tpos) (.Call (.Name "enumerate" p) [e] [] pos) (iEnum X.K ta) := by
  intro pins s σ H R I h
  refine Call_ (ld_blt I hg hm boot_enumerate (PyProof.Rows.callWith_type1 (thn (ha pos pins s σ H _ I h) fun us s1 ⟨vs, H1, I1, r1, q1⟩ => ?_) hs rfl))
  obtain ⟨a, xs, ex, hq, q⟩ := q1
  subst ex
  cases r1 with
  | cons r rr =>
    cases rr
    cases r
    obtain ⟨its, rv, p', hz⟩ := I1.list hq
    refine call_enumerate_list p'.isList fun h' he hit hsz hk => wpAny_pyIter_enum he ?_
    have I2 : Inv X pins σ H1 { s1 with heap := h' } := I1.kept (t' := s1.toks) hk
    refine ⟨s1.heap.objs.size + 1, [s1.heap.objs.size + 1, s1.heap.objs.size], _, _, H1, rfl, I2, turn_enum a (s1.heap.objs.size + 1) s1.heap.objs.size, ⟨⟨.none, he⟩, hit, Nat.succ_ne_self _⟩, fun b hb => ?_, q⟩
    have e' : b = s1.heap.objs.size + 1 ∨ b = s1.heap.objs.size := by simpa using hb
    have hle : s1.heap.objs.size ≤ b := by
      rcases e' with z | z
      · rw [z]; exact Nat.le_add_right _ _
      · rw [z]; exact Nat.le_refl _
    exact I1.fpOk hle (I1.hok.fresh hle)
/-! ### zip(list, list) -/
end L2

section 
namespace Bits
open PySem PyProof.Rows

end Bits
end 

section 
namespace TL
open PySem PySem.Builtin PySem.Builtin.Str PySem.StrLaws

abbrev tl (x : Str) : List Nat := x.cps.toList
/-! ### the list functions -/
/-- S stands at the head of l -/
def pre (S l : List Nat) : Bool := l.take S.length == S
/-- l cut at each S from the left; k signs are still to be passed over -/
def spl (S : List Nat) : Nat → List Nat → List Nat → List (List Nat)
  | _, acc, [] => [acc]
  | 0, acc, c :: r => if pre S (c :: r) = true then acc :: spl S (S.length - 1) [] r else spl S 0 (acc ++ [c]) r
  | k + 1, acc, _ :: r => spl S k acc r
/-- what stands before the first S, and behind it -/
def par (S : List Nat) : List Nat → List Nat → Option (List Nat × List Nat)
  | _, [] => none
  | acc, c :: r => if pre S (c :: r) = true then some (acc, (c :: r).drop S.length) else par S (acc ++ [c]) r

/-! ### the model's split and partition are these -/
/-! ### computing spl and par -/
/-! ### digits -/
/-! ### words: x.split() -/
end TL
end 

namespace L2
open PySem PySem.Spec PyProof.Rows

section
variable {X : Cx} {pins : List (Addr × Obj)} {σ : St} {H : Hp} {s : Shared} {Q : VK}
end

section
variable {X : Cx}

/-! ### of a text alone -/
/-! ### of a text and a text -/
end

section
variable {X : Cx} {o e : Expr} {to te : TE}
end
end L2

namespace L2
open PySem PySem.Spec PyProof.Rows

section
variable {X : Cx}
end

/-! ### slices of a text -/
theorem IsPart.raw {v : Value} {o : Option Int} (p : IsPart v o) : ∃ l : Option (Int × Tok), v = partValue l ∧ l.map (·.1) = o := by
  cases p with
  | none => exact ⟨none, rfl, rfl⟩
  | int i t => exact ⟨some (i, t), rfl, rfl⟩

end L2

namespace Att
open PySem PySem.W PySem.Calls PyProof.Rows

/-! ### the script -/
/-! ### the attachment: holds_open's last premise (the goal 'hc' behind k_head) from a wpAny of the law's body -/
/-! ### rules over ANY heap (no ledger) from facts about the written part K: the library's own take a ledger (News) for what they write -/
section
variable {prog : Program} {w : World} {A : Around} {E : Value → Shared → Prop} {s : Shared} {K : Frag}

/-! the whole heap as the ledger: makes every rule that writes through a ledger a rule over any heap -/
def ledger (h : Heap) (L d : Addr) : List (Addr × Obj) := (List.range h.objs.size).filterMap fun a => if a = L ∨ a = d then none else (h.get? a).map fun o => (a, o)
end
end Att

namespace L2
open PySem PySem.Spec PyProof.Rows

end L2

namespace L2
open PySem PySem.Spec PyProof.Rows

end L2

/-! SHORT WORDS over the layer: a def of the text, its body, what a loop and a test want. -/
namespace L2
open PySem PySem.Spec PyProof.Rows

/-! ### the text by places -/
/-- the j-th statement of a class's body -/
def inClass (s : Stmt) (j : Nat) : Stmt := match s with
  | .ClassDef _ _ _ body _ _ _ _ _ _ _ => body.getD j (.Pass ⟨0, 0, 0, 0⟩)
  | _ => .Pass ⟨0, 0, 0, 0⟩
def defArgs (s : Stmt) : Arguments := match s with
  | .FunctionDef _ a _ _ _ _ _ _ _ _ => a
  | _ => { posonlyargs := [], args := [], vararg := none, kwonlyargs := [], kw_defaults := [], kwarg := none, defaults := [] }
def defBody (s : Stmt) : List Stmt := match s with
  | .FunctionDef _ _ b _ _ _ _ _ _ _ => b
  | _ => []
def defScope (s : Stmt) : Scope := match s with
  | .FunctionDef _ _ _ _ _ _ sc _ _ _ => sc
  | _ => { kind := .function, names := [], isGenerator := false, isCoroutine := false }

/-! ### no exception leaves a def -/
abbrev CX0 : CXT := fun _ _ _ _ _ _ => False
abbrev E0 : XK := fun _ _ _ => False
/-! ### a def (or method) of the text as it stands behind the top -/
structure Fun (K : PySem.W.Frag) (x qual : Str) (st : Stmt) (f : Addr) (fd : FuncData) : Prop where
  ex : ∃ (oc : Value) (od : Option Addr) (kV doc pm : Value) (an : Option Addr) (cdv ct : Value) (osl : Array (Option Value)),
    fd = PySem.W.fnOf x qual (defArgs st) (defBody st) (defScope st) .none kV doc pm an cdv ct ∧ K.lookup f = some ⟨oc, od, .func fd, osl⟩ ∧ PySem.W.codeIn K cdv qual = true
  kp : PySem.W.keepIn K (.ref f) = true
section
variable {P : Program} {w : World} {K : PySem.W.Frag} {mg : Str → Option Value} {base : Heap}
/-- THE RULE for a def: its body as a term of rules, and the reading of that term -/
theorem Fun.ok {x qual : Str} {st : Stmt} {f : Addr} {fd : FuncData} {N ps : List Str} {k : Nat} {sp : Sp} (F : Fun K x qual st f fd) (S : FnScope N ps (defScope st)) (len : ∀ vs H Q E, sp vs H Q E → vs.length = ps.length)
    (hbody : ∀ (cdv : Value) (A : Around) (outer : List Env) (s : Shared) (H : Hp) (vs : List V) (Q : VK) (E : XK), Room k (A.deeper (envOfC qual (defScope st) s.heap.objs.size f cdv)) → sp vs H Q E →
      ∃ t, PSs (cxOf CX0 P w K mg base N qual (defScope st) f cdv A outer s H E).nox (defBody st) t ∧ t { nx := fun _ H' => Q .non H', rt := Q } (start N vs) H) : FnOk P w K mg base CX0 (k + 1) f fd ps sp := by
  obtain ⟨oc, od, kV, doc, pm, an, cdv, ct, osl, rfl, lk, hcd⟩ := F.ex
  refine fn_of lk hcd S len fun A outer s H vs Q E hr hsp => ?_
  obtain ⟨t, h, q⟩ := hbody cdv A outer s H vs Q E hr hsp
  exact ⟨t, h.nox, q⟩
/-- how its arguments bind (no defaults): h is «fun _ _ _ _ _ _ us hl => match us, hl with | [_, _], _ => rfl», one _ a parameter -/
theorem Fun.binds {x qual : Str} {st : Stmt} {f : Addr} {fd : FuncData} {ps : List Str} (F : Fun K x qual st f fd)
    (h : ∀ (kV doc pm : Value) (an : Option Addr) (cdv ct : Value) (us : List Value), us.length = ps.length → bindArgs (PySem.W.fnOf x qual (defArgs st) (defBody st) (defScope st) .none kV doc pm an cdv ct) ⟨us, []⟩ = pure (ps.zip us)) : Binds K fd ps [] := by
  obtain ⟨oc, od, kV, doc, pm, an, cdv, ct, osl, rfl, lk, hcd⟩ := F.ex
  exact .all (h kV doc pm an cdv ct)
theorem fun_mk {x qual : Str} {st : Stmt} {f : Addr} {oc : Value} {od an : Option Addr} {osl : Array (Option Value)} {kV doc pm cdv ct : Value} (l : K.lookup f = some ⟨oc, od, .func (PySem.W.fnOf x qual (defArgs st) (defBody st) (defScope st) .none kV doc pm an cdv ct), osl⟩)
    (c : PySem.W.codeIn K cdv qual = true) (k : PySem.W.keepIn K (.ref f) = true) : Fun K x qual st f (PySem.W.fnOf x qual (defArgs st) (defBody st) (defScope st) .none kV doc pm an cdv ct) := ⟨⟨oc, od, kV, doc, pm, an, cdv, ct, osl, rfl, l, c⟩, k⟩
end
/-! ### expressions in short: the name that stands in the i-th slot -/
section
variable {X : Cx}
theorem pv (i : Nat) {x : Str} {pos : Pos} (hN : X.N[i]? = some x := by rfl) (hv : Vis X.env.scope x := by first | exact Or.inl rfl | exact Or.inr (Or.inl rfl) | exact Or.inr (Or.inr rfl)) (hd : (x == ("__debug__" : Str)) = false := by decide)
    (hcd : (x == ("__classdict__" : Str)) = false := by decide) : PE X (.Name x pos) (tVar i) := pe_var hN hv hd hcd
end

/-! ### tests -/
theorem iteF {A B : Prop} (h : B) : if false = true then A else B := by
  rw [if_neg Bool.false_ne_true]
  exact h
theorem iteT {A B : Prop} (h : A) : if true = true then A else B := by
  rw [if_pos rfl]
  exact h
theorem ite2 {c A B : Prop} [Decidable c] (h1 : c → A) (h2 : ¬ c → B) : if c then A else B := by
  by_cases h : c
  · rw [if_pos h]
    exact h1 h
  · rw [if_neg h]
    exact h2 h
/-! ### heaps -/
/-- all that was tracked is as it was -/
def Same (H H' : Hp) : Prop := ∀ b o, H b = some o → H' b = some o
theorem Same.refl (H : Hp) : Same H H := fun _ _ h => h
theorem Same.trans {H H1 H2 : Hp} (a : Same H H1) (b : Same H1 H2) : Same H H2 := fun c o h => b c o (a c o h)
theorem Same.free {H H' : Hp} (e : Same H H') {l : Addr} (h : H' l = Option.none) : H l = Option.none := by
  cases q : H l with
  | none => rfl
  | some o =>
    rw [e l o q] at h
    cases h
theorem Same.seq {K : PySem.W.Frag} {H H' : Hp} {a : Addr} {xs : List V} (e : Same H H') (h : SqL K H a xs) : SqL K H' a xs := by
  rcases h with (h | ⟨o, h⟩) | h
  · exact .inl (.inl (e _ _ h))
  · exact .inl (.inr ⟨o, e _ _ h⟩)
  · exact .inr h

/-! ### a dict's pairs: keys that differ -/
section
variable {κ : Type} [DecidableEq κ]
theorem nd_snoc : ∀ {l : List κ} {k : κ}, l.Nodup → ¬ k ∈ l → (l ++ [k]).Nodup
  | [], k, _, _ => by simp
  | a :: r, k, h, hk => by
    obtain ⟨h1, h2⟩ := List.nodup_cons.mp h
    show (a :: (r ++ [k])).Nodup
    refine List.nodup_cons.mpr ⟨fun m => ?_, nd_snoc h2 fun m => hk (List.mem_cons.mpr (Or.inr m))⟩
    rcases List.mem_append.mp m with q | q
    · exact h1 q
    · exact hk (List.mem_cons.mpr (Or.inl (List.mem_singleton.mp q).symm))
end
/-! ### lists -/
/-- a new instance and its __init__ leave all that was tracked as it was -/
theorem Same.made {H H1 : Hp} {x dx C : Addr} (nx : H x = Option.none) (nd : H dx = Option.none) (k : ∀ b o, (upd (upd H dx (.own x)) x (.ins C dx [])) b = some o → b ≠ x → H1 b = some o) : Same H H1 := fun b o e =>
  k b o (by rw [upd_ne (ne_of_none e nx), upd_ne (ne_of_none e nd)]; exact e) (ne_of_none e nx)
end L2

section
set_option Elab.async false
set_option linter.all false
set_option maxRecDepth 100000
set_option maxHeartbeats 2000000
namespace L2
open PySem PySem.Spec PyProof.Rows
open PySem.W (WData Codec OpenSpec Well WellAll ReadsW ReadsAllW)
/-! ### an answer as data -/
mutual
/-- x stands for the datum d, lists and tuples all the way -/
inductive Dw (K : PySem.W.Frag) (H : Hp) : V → WData → Prop
  | non : Dw K H .non .none
  | bl (b : Bool) : Dw K H (.bl b) (.bool b)
  | int (i : Int) : Dw K H (.int i) (.int i)
  | str (x : Str) : Dw K H (.str x) (.str x)
  | byt (b : Array UInt8) : Dw K H (.byt b) (.bytes b.toList)
  | lst {a : Addr} {xs : List V} {ds : List WData} : SqL K H a xs → DwAll K H xs ds → Dw K H (.ref a) (.list ds)
  | tup {a : Addr} {xs : List V} {ds : List WData} : SqT K H a xs → DwAll K H xs ds → Dw K H (.ref a) (.tuple ds)
inductive DwAll (K : PySem.W.Frag) (H : Hp) : List V → List WData → Prop
  | nil : DwAll K H [] []
  | cons {v : V} {vs : List V} {d : WData} {ds : List WData} : Dw K H v d → DwAll K H vs ds → DwAll K H (v :: vs) (d :: ds)
end
theorem dw_ints {K : PySem.W.Frag} {H : Hp} : ∀ ns : List Int, DwAll K H (ns.map V.int) (ns.map WData.int)
  | [] => .nil
  | n :: r => .cons (.int n) (dw_ints r)
theorem ints_dw {K : PySem.W.Frag} {H : Hp} : ∀ (ns : List Int) (xs : List V), DwAll K H xs (ns.map WData.int) → xs = ns.map V.int
  | [], xs, h => by
    cases h
    rfl
  | n :: r, xs, h => by
    cases h with
    | cons h1 h2 =>
      cases h1
      rw [ints_dw r _ h2] <;> rfl
section
variable {P : Program} {w : World} {K : PySem.W.Frag} {H : Hp} {h : Heap} {R : PySem.W.WRecords} {cl : Str → Option Addr}
theorem sqL_at {a : Addr} {xs : List V} (hok : HOk P w H h) (KX : K.In h) (q : SqL K H a xs) : ∃ (its : List Value) (o : Obj) (n : Nat), Vals xs its ∧ h.get? a = some o ∧ o.cls = .type "list" ∧ o.data = .seq its.toArray n := by
  rcases q with q | ⟨o, its, n, e, hc, _, hd, _, hv⟩
  · obtain ⟨_, its, n, hv, e⟩ := (show ObjOk P w H h a (.lst xs) from q.ok hok)
    exact ⟨its, _, n, hv, e, rfl, rfl⟩
  · exact ⟨its.toList, o, n, hv, KX _ _ e, hc, by simp [hd]⟩
theorem sqT_at {a : Addr} {xs : List V} (hok : HOk P w H h) (KX : K.In h) (q : SqT K H a xs) : ∃ (its : List Value) (o : Obj) (n : Nat), Vals xs its ∧ h.get? a = some o ∧ o.cls = .type "tuple" ∧ o.data = .seq its.toArray n := by
  rcases q with q | ⟨o, its, n, e, hc, hd, _, hv⟩
  · obtain ⟨_, its, hv, o, e, hc, n, hd⟩ := (show ObjOk P w H h a (.tup xs) from q.ok hok)
    exact ⟨its, o, n, hv, e, hc, hd⟩
  · exact ⟨its.toList, o, n, hv, KX _ _ e, hc, by simp [hd]⟩
mutual
theorem Dw.reads (hok : HOk P w H h) (KX : K.In h) : ∀ (d : WData) (v : V) (u : Value), Dw K H v d → RelV v u → ∃ as, ReadsW R cl h u d as
  | .none, _, _, x, r => by
    cases x
    cases r
    exact ⟨_, ReadsW.none⟩
  | .bool b, _, _, x, r => by
    cases x
    cases r
    exact ⟨_, ReadsW.bool b⟩
  | .int i, _, _, x, r => by
    cases x
    obtain ⟨t, rfl⟩ := r
    exact ⟨_, ReadsW.int i t⟩
  | .str s, _, _, x, r => by
    cases x
    obtain ⟨t, rfl⟩ := r
    exact ⟨_, ReadsW.str s t⟩
  | .bytes b, _, _, x, r => by
    cases x
    obtain ⟨t, rfl⟩ := r
    exact ⟨_, ReadsW.bytes _ t⟩
  | .list ds, _, _, x, r => by
    cases x with
    | lst hs ha =>
      cases r
      obtain ⟨its, o, n, rv, ho, hc, hd⟩ := sqL_at hok KX hs
      obtain ⟨as, hr⟩ := Dw.readsAll hok KX ds _ its ha rv
      exact ⟨_, ReadsW.list ho hc hd hr⟩
  | .tuple ds, _, _, x, r => by
    cases x with
    | tup hs ha =>
      cases r
      obtain ⟨its, o, n, rv, ho, hc, hd⟩ := sqT_at hok KX hs
      obtain ⟨as, hr⟩ := Dw.readsAll hok KX ds _ its ha rv
      exact ⟨_, ReadsW.tuple ho hc hd hr⟩
  | .float _, _, _, x, _ => by cases x
  | .dict _, _, _, x, _ => by cases x
  | .bytearray _, _, _, x, _ => by cases x
  | .set _, _, _, x, _ => by cases x
  | .frozenset _, _, _, x, _ => by cases x
  | .obj _ _, _, _, x, _ => by cases x
theorem Dw.readsAll (hok : HOk P w H h) (KX : K.In h) : ∀ (ds : List WData) (vs : List V) (us : List Value), DwAll K H vs ds → Vals vs us → ∃ as, ReadsAllW R cl h us ds as
  | [], _, _, x, r => by
    cases x
    cases r
    exact ⟨_, ReadsAllW.nil⟩
  | d :: ds, _, _, x, r => by
    cases x with
    | cons h1 h2 =>
      cases r with
      | cons r1 r2 =>
        obtain ⟨as, q1⟩ := Dw.reads hok KX d _ _ h1 r1
        obtain ⟨bs, q2⟩ := Dw.readsAll hok KX ds _ _ h2 r2
        exact ⟨_, ReadsAllW.cons q1 q2⟩
end
end
/-! ### the arguments -/
mutual
/-- data that a codec tells -/
def plW : WData → Bool
  | .none => true
  | .bool _ => true
  | .int _ => true
  | .str _ => true
  | .bytes _ => true
  | .list xs => plWs xs
  | .tuple xs => plWs xs
  | _ => false
def plWs : List WData → Bool
  | [] => true
  | x :: r => plW x && plWs r
end
theorem plWs_map {α : Type} {f : α → WData} (h : ∀ a, plW (f a) = true) : ∀ l : List α, plWs (l.map f) = true
  | [] => rfl
  | x :: r => by
    show (plW (f x) && plWs (r.map f)) = true
    rw [h x, plWs_map h r] <;> rfl
theorem pl_enc : ∀ (c : Codec) (a : c.denote), plW (c.enc a) = true
  | .unit, _ => rfl
  | .bool, _ => rfl
  | .int _ _, _ => rfl
  | .nat _ _, _ => rfl
  | .u8, _ => rfl
  | .bytes _ _, _ => rfl
  | .text _ _ _ _, _ => rfl
  | .list _ _ c, a => plWs_map (fun x => pl_enc c x) a
  | .pair c d, a => by
    show (plW (c.enc a.1) && (plW (d.enc a.2) && true)) = true
    rw [pl_enc c a.1, pl_enc d a.2] <;> rfl
  | .triple c d e, a => by
    show (plW (c.enc a.1) && (plW (d.enc a.2.1) && (plW (e.enc a.2.2) && true))) = true
    rw [pl_enc c a.1, pl_enc d a.2.1, pl_enc e a.2.2] <;> rfl
  | .option c, none => rfl
  | .option c, some x => pl_enc c x
theorem pl_encAll : ∀ (cs : List Codec) (a : Codec.denoteAll cs), plWs (Codec.encAll cs a) = true
  | [], _ => rfl
  | c :: cs, a => by
    show (plW (c.enc a.1) && plWs (Codec.encAll cs a.2)) = true
    rw [pl_enc c a.1, pl_encAll cs a.2] <;> rfl
theorem weight_mem : ∀ {xs : List WData} {d : WData}, d ∈ xs → d.weight ≤ WData.weightAll xs
  | [], d, h => absurd h (by simp)
  | x :: r, d, h => by
    show d.weight ≤ x.weight + 1 + WData.weightAll r
    rcases List.mem_cons.mp h with e | m
    · rw [e]
      omega
    · have z := weight_mem m
      omega
def toV : Value → V
  | .none => .non
  | .bool b => .bl b
  | .int i _ => .int i
  | .str x _ => .str x
  | .bytes b _ => .byt b
  | .ref a => .ref a
  | _ => .non
/-- a value of the arguments, its objects among A -/
def OkU (A : List Addr) : Value → Prop
  | .none => True
  | .bool _ => True
  | .int _ _ => True
  | .str _ _ => True
  | .bytes _ _ => True
  | .ref a => a ∈ A
  | _ => False
theorem OkU.mono {A B : List Addr} (h : ∀ a ∈ A, a ∈ B) : ∀ {u : Value}, OkU A u → OkU B u := fun {u} x => by
  cases u with
  | ref a => exact h a x
  | none => trivial
  | bool b => trivial
  | int i t => trivial
  | str s t => trivial
  | bytes b t => trivial
  | _ => exact False.elim x
theorem relV_toV {A : List Addr} {u : Value} (x : OkU A u) : RelV (toV u) u := by
  cases u with
  | ref a => rfl
  | none => rfl
  | bool b => rfl
  | int i t => exact ⟨t, rfl⟩
  | str s t => exact ⟨t, rfl⟩
  | bytes b t => exact ⟨t, rfl⟩
  | _ => exact False.elim x
theorem vals_toV {A : List Addr} : ∀ {vs : List Value}, (∀ u ∈ vs, OkU A u) → Vals (vs.map toV) vs
  | [], _ => .nil
  | u :: r, h => .cons (relV_toV (h u (List.mem_cons_self ..))) (vals_toV fun x hx => h x (List.mem_cons_of_mem _ hx))
/-- an object of the arguments -/
def ArgOb (h : Heap) (A : List Addr) (a : Addr) : Prop := ∃ vs : List Value, vs.length ≤ sizeLine ∧ (∀ u ∈ vs, OkU A u) ∧
  (h.get? a = some { cls := .type "list", data := .seq vs.toArray } ∨ h.get? a = some { cls := .type "tuple", data := .seq vs.toArray })
theorem ArgOb.mono {h : Heap} {A B : List Addr} {a : Addr} (k : ∀ a ∈ A, a ∈ B) (x : ArgOb h A a) : ArgOb h B a := by
  obtain ⟨vs, h1, h2, h3⟩ := x
  exact ⟨vs, h1, fun u hu => (h2 u hu).mono k, h3⟩
theorem wellAll_len {P : Params} {h : Heap} : ∀ {vs : List Value} {ds : List WData}, WellAll P h vs ds → vs.length = ds.length
  | _, _, .nil => rfl
  | _, _, .cons _ b => by
    show _ + 1 = _ + 1
    rw [wellAll_len b]
theorem well_list {P : Params} {h : Heap} {v : Value} {ds : List WData} (x : Well P h v (.list ds)) : ∃ (a : Addr) (vs : List Value), v = .ref a ∧ h.get? a = some { cls := .type "list", data := .seq vs.toArray } ∧ WellAll P h vs ds := by
  cases x with
  | list ho hall => exact ⟨_, _, rfl, ho, hall⟩
theorem well_tuple {P : Params} {h : Heap} {v : Value} {ds : List WData} (x : Well P h v (.tuple ds)) : ∃ (a : Addr) (vs : List Value), v = .ref a ∧ h.get? a = some { cls := .type "tuple", data := .seq vs.toArray } ∧ WellAll P h vs ds := by
  cases x with
  | tuple ho hall => exact ⟨_, _, rfl, ho, hall⟩
theorem well_cons {P : Params} {h : Heap} {us : List Value} {d : WData} {ds : List WData} (x : WellAll P h us (d :: ds)) : ∃ (v : Value) (vs : List Value), us = v :: vs ∧ Well P h v d ∧ WellAll P h vs ds := by
  cases x with
  | cons a b => exact ⟨_, _, rfl, a, b⟩
theorem line_of {n : Nat} (h : n ≤ 1048576) : n ≤ sizeLine := Nat.le_trans h (by decide)
section
variable {P : Params} {h : Heap}
mutual
theorem area_one : ∀ (d : WData) (v : Value), Well P h v d → plW d = true → d.weight ≤ 1048576 → ∃ A : List Addr, OkU A v ∧ ∀ a ∈ A, ArgOb h A a
  | .none, _, x, _, _ => by
    cases x
    exact ⟨[], trivial, fun a m => absurd m (by simp)⟩
  | .bool b, _, x, _, _ => by
    cases x
    exact ⟨[], trivial, fun a m => absurd m (by simp)⟩
  | .int i, _, x, _, _ => by
    cases x
    exact ⟨[], trivial, fun a m => absurd m (by simp)⟩
  | .str s, _, x, _, _ => by
    cases x
    exact ⟨[], trivial, fun a m => absurd m (by simp)⟩
  | .bytes b, _, x, _, _ => by
    cases x
    exact ⟨[], trivial, fun a m => absurd m (by simp)⟩
  | .list ds, _, x, p, z => by
    obtain ⟨a, vs, rfl, ho, hall⟩ := well_list x
    have z2 : WData.weightAll ds ≤ 1048576 := z
    obtain ⟨A, h1, h2⟩ := area_all ds _ hall p fun d hd => Nat.le_trans (weight_mem hd) z2
    have k : ∀ b ∈ A, b ∈ a :: A := fun b hb => List.mem_cons_of_mem _ hb
    refine ⟨a :: A, List.mem_cons_self .., fun b hb => ?_⟩
    rcases List.mem_cons.mp hb with e | m
    · rw [e]
      exact ⟨vs, line_of (by rw [wellAll_len hall]; exact Nat.le_trans (PySem.W.length_le_weightAllW ds) z2), fun u hu => (h1 u hu).mono k, .inl ho⟩
    · exact (h2 b m).mono k
  | .tuple ds, _, x, p, z => by
    obtain ⟨a, vs, rfl, ho, hall⟩ := well_tuple x
    have z2 : WData.weightAll ds ≤ 1048576 := z
    obtain ⟨A, h1, h2⟩ := area_all ds _ hall p fun d hd => Nat.le_trans (weight_mem hd) z2
    have k : ∀ b ∈ A, b ∈ a :: A := fun b hb => List.mem_cons_of_mem _ hb
    refine ⟨a :: A, List.mem_cons_self .., fun b hb => ?_⟩
    rcases List.mem_cons.mp hb with e | m
    · rw [e]
      exact ⟨vs, line_of (by rw [wellAll_len hall]; exact Nat.le_trans (PySem.W.length_le_weightAllW ds) z2), fun u hu => (h1 u hu).mono k, .inr ho⟩
    · exact (h2 b m).mono k
  | .float _, _, _, p, _ => Bool.noConfusion (show false = true from p)
  | .dict _, _, _, p, _ => Bool.noConfusion (show false = true from p)
  | .bytearray _, _, _, p, _ => Bool.noConfusion (show false = true from p)
  | .set _, _, _, p, _ => Bool.noConfusion (show false = true from p)
  | .frozenset _, _, _, p, _ => Bool.noConfusion (show false = true from p)
  | .obj _ _, _, _, p, _ => Bool.noConfusion (show false = true from p)
theorem area_all : ∀ (ds : List WData) (vs : List Value), WellAll P h vs ds → plWs ds = true → (∀ d ∈ ds, d.weight ≤ 1048576) → ∃ A : List Addr, (∀ u ∈ vs, OkU A u) ∧ ∀ a ∈ A, ArgOb h A a
  | [], _, x, _, _ => by
    cases x
    exact ⟨[], fun u m => absurd m (by simp), fun a m => absurd m (by simp)⟩
  | d :: ds, _, x, p, z => by
    obtain ⟨v, vs, rfl, x1, x2⟩ := well_cons x
    have q : plW d = true ∧ plWs ds = true := Bool.and_eq_true_iff.mp p
    obtain ⟨A, a1, a2⟩ := area_one d v x1 q.1 (z d (List.mem_cons_self ..))
    obtain ⟨B, b1, b2⟩ := area_all ds vs x2 q.2 fun e he => z e (List.mem_cons_of_mem _ he)
    have kA : ∀ b ∈ A, b ∈ A ++ B := fun b hb => List.mem_append.mpr (.inl hb)
    have kB : ∀ b ∈ B, b ∈ A ++ B := fun b hb => List.mem_append.mpr (.inr hb)
    refine ⟨A ++ B, fun u hu => ?_, fun b hb => ?_⟩
    · rcases List.mem_cons.mp hu with e | m
      · rw [e]
        exact a1.mono kA
      · exact (b1 u m).mono kB
    · rcases List.mem_append.mp hb with m | m
      · exact (a2 b m).mono kA
      · exact (b2 b m).mono kB
end
end
/-- what is tracked of an argument's object -/
def hoOf (o : Obj) : Option HO := match o.data with
  | .seq vs _ => if (o.cls == Value.type "list") = true then some (.frz o (.lst (vs.toList.map toV))) else some (.frz o (.tup (vs.toList.map toV)))
  | _ => none
def argH (K : PySem.W.Frag) (h : Heap) (A : List Addr) : Hp := fun b => if b ∈ A then (if (K.lookup b).isNone = true then (h.get? b).bind hoOf else none) else none
/-- nothing is tracked but what is known to the object -/
def OnlyF (H : Hp) : Prop := ∀ b, H b = none ∨ ∃ o u, H b = some (.frz o u)
theorem hoOf_lst (vs : List Value) : hoOf { cls := .type "list", data := .seq vs.toArray } = some (.frz { cls := .type "list", data := .seq vs.toArray } (.lst (vs.map toV))) := by
  show (if (Value.type "list" == Value.type "list") = true then some (HO.frz { cls := .type "list", data := .seq vs.toArray } (.lst (vs.toArray.toList.map toV))) else some (HO.frz { cls := .type "list", data := .seq vs.toArray } (.tup (vs.toArray.toList.map toV)))) = _
  rw [if_pos (beq_self_eq_true _)]
theorem hoOf_tup (vs : List Value) : hoOf { cls := .type "tuple", data := .seq vs.toArray } = some (.frz { cls := .type "tuple", data := .seq vs.toArray } (.tup (vs.map toV))) := by
  show (if (Value.type "tuple" == Value.type "list") = true then some (HO.frz { cls := .type "tuple", data := .seq vs.toArray } (.lst (vs.toArray.toList.map toV))) else some (HO.frz { cls := .type "tuple", data := .seq vs.toArray } (.tup (vs.toArray.toList.map toV)))) = _
  rw [if_neg (by decide)]
section
variable {P : Program} {w : World} {K : PySem.W.Frag} {h : Heap} {A : List Addr}
theorem argH_at {b : Addr} {o : Obj} (hb : b ∈ A) (hk : K.lookup b = none) (e : h.get? b = some o) : argH K h A b = hoOf o := by
  unfold argH
  rw [if_pos hb, hk, if_pos (show (none : Option Obj).isNone = true from rfl), e] <;> rfl
theorem of_argH {b : Addr} {u : HO} (q : argH K h A b = some u) : b ∈ A ∧ K.lookup b = none := by
  unfold argH at q
  by_cases hb : b ∈ A
  · rw [if_pos hb] at q
    cases hk : K.lookup b with
    | none => exact ⟨hb, rfl⟩
    | some o =>
      rw [hk, if_neg (by simp)] at q
      cases q
  · rw [if_neg hb] at q
    cases q
/-- what stands tracked -/
theorem argH_is (ar : ∀ a ∈ A, ArgOb h A a) {b : Addr} {u : HO} (q : argH K h A b = some u) : K.lookup b = none ∧ ∃ vs : List Value, vs.length ≤ sizeLine ∧ (∀ u ∈ vs, OkU A u) ∧
    ((h.get? b = some { cls := .type "list", data := .seq vs.toArray } ∧ u = .frz { cls := .type "list", data := .seq vs.toArray } (.lst (vs.map toV))) ∨
     (h.get? b = some { cls := .type "tuple", data := .seq vs.toArray } ∧ u = .frz { cls := .type "tuple", data := .seq vs.toArray } (.tup (vs.map toV)))) := by
  obtain ⟨hb, hk⟩ := of_argH q
  obtain ⟨vs, h1, h2, h3⟩ := ar b hb
  refine ⟨hk, vs, h1, h2, ?_⟩
  rcases h3 with e | e
  · rw [argH_at hb hk e, hoOf_lst] at q
    exact .inl ⟨e, (Option.some.inj q).symm⟩
  · rw [argH_at hb hk e, hoOf_tup] at q
    exact .inr ⟨e, (Option.some.inj q).symm⟩
theorem argH_only (ar : ∀ a ∈ A, ArgOb h A a) : OnlyF (argH K h A) := fun b => by
  cases q : argH K h A b with
  | none => exact .inl rfl
  | some u =>
    obtain ⟨_, vs, _, _, ⟨_, e⟩ | ⟨_, e⟩⟩ := argH_is ar q
    · exact .inr ⟨_, _, by rw [e]⟩
    · exact .inr ⟨_, _, by rw [e]⟩
theorem argH_ok (ar : ∀ a ∈ A, ArgOb h A a) : HOk P w (argH K h A) h := fun b u q => by
  obtain ⟨_, vs, h1, h2, ⟨e, rfl⟩ | ⟨e, rfl⟩⟩ := argH_is ar q
  · exact ⟨e, by rw [List.length_map]; exact h1, vs, _, vals_toV h2, e⟩
  · exact ⟨e, by rw [List.length_map]; exact h1, vs, vals_toV h2, _, e, rfl, _, rfl⟩
theorem seq_inj {c c' : Value} {vs us : List Value} (e : (some { cls := c, data := .seq vs.toArray } : Option Obj) = some { cls := c', data := .seq us.toArray }) : c = c' ∧ vs = us := by
  have e1 := Option.some.inj e
  have e2 : c = c' := congrArg Obj.cls e1
  have e3 : Data.seq vs.toArray = Data.seq us.toArray := congrArg Obj.data e1
  injection e3 with e4
  refine ⟨e2, ?_⟩
  have e5 := congrArg Array.toList e4
  simpa using e5
/-- a list argument -/
theorem argL (KX : K.In h) (ar : ∀ a ∈ A, ArgOb h A a) {a : Addr} {vs : List Value} (ha : a ∈ A) (e : h.get? a = some { cls := .type "list", data := .seq vs.toArray }) : (∀ u ∈ vs, OkU A u) ∧ SqL K (argH K h A) a (vs.map toV) := by
  obtain ⟨us, h1, h2, h3⟩ := ar a ha
  have hu : us = vs := by
    rcases h3 with q | q
    · rw [e] at q
      exact (seq_inj q).2.symm
    · rw [e] at q
      exact absurd (Value.type.inj (seq_inj q).1) (by decide)
  subst hu
  refine ⟨h2, ?_⟩
  cases hk : K.lookup a with
  | none => exact .inl (.inr ⟨_, by rw [argH_at ha hk e, hoOf_lst]⟩)
  | some o =>
    have e2 := KX a o hk
    rw [e] at e2
    obtain rfl := Option.some.inj e2
    exact .inr ⟨_, us.toArray, _, hk, rfl, rfl, rfl, by rw [List.size_toArray]; exact h1, by simpa using vals_toV h2⟩
theorem argT (KX : K.In h) (ar : ∀ a ∈ A, ArgOb h A a) {a : Addr} {vs : List Value} (ha : a ∈ A) (e : h.get? a = some { cls := .type "tuple", data := .seq vs.toArray }) : (∀ u ∈ vs, OkU A u) ∧ SqT K (argH K h A) a (vs.map toV) := by
  obtain ⟨us, h1, h2, h3⟩ := ar a ha
  have hu : us = vs := by
    rcases h3 with q | q
    · rw [e] at q
      exact absurd (Value.type.inj (seq_inj q).1) (by decide)
    · rw [e] at q
      exact (seq_inj q).2.symm
  subst hu
  refine ⟨h2, ?_⟩
  cases hk : K.lookup a with
  | none => exact .inl (.inr ⟨_, by rw [argH_at ha hk e, hoOf_tup]⟩)
  | some o =>
    have e2 := KX a o hk
    rw [e] at e2
    obtain rfl := Option.some.inj e2
    exact .inr ⟨_, us.toArray, _, hk, rfl, rfl, by rw [List.size_toArray]; exact h1, by simpa using vals_toV h2⟩
mutual
theorem dw_one {Pm : Params} (KX : K.In h) (ar : ∀ a ∈ A, ArgOb h A a) : ∀ (d : WData) (v : Value), Well Pm h v d → plW d = true → OkU A v → Dw K (argH K h A) (toV v) d
  | .none, _, x, _, _ => by
    cases x
    exact .non
  | .bool b, _, x, _, _ => by
    cases x
    exact .bl b
  | .int i, _, x, _, _ => by
    cases x
    exact .int i
  | .str s, _, x, _, _ => by
    cases x
    exact .str s
  | .bytes b, _, x, _, _ => by
    cases x
    have z := Dw.byt (K := K) (H := argH K h A) b.toArray
    exact z
  | .list ds, _, x, p, hu => by
    obtain ⟨a, vs, rfl, ho, hall⟩ := well_list x
    obtain ⟨h2, hs⟩ := argL KX ar hu ho
    exact .lst hs (dw_all KX ar ds _ hall p h2)
  | .tuple ds, _, x, p, hu => by
    obtain ⟨a, vs, rfl, ho, hall⟩ := well_tuple x
    obtain ⟨h2, hs⟩ := argT KX ar hu ho
    exact .tup hs (dw_all KX ar ds _ hall p h2)
  | .float _, _, _, p, _ => Bool.noConfusion (show false = true from p)
  | .dict _, _, _, p, _ => Bool.noConfusion (show false = true from p)
  | .bytearray _, _, _, p, _ => Bool.noConfusion (show false = true from p)
  | .set _, _, _, p, _ => Bool.noConfusion (show false = true from p)
  | .frozenset _, _, _, p, _ => Bool.noConfusion (show false = true from p)
  | .obj _ _, _, _, p, _ => Bool.noConfusion (show false = true from p)
theorem dw_all {Pm : Params} (KX : K.In h) (ar : ∀ a ∈ A, ArgOb h A a) : ∀ (ds : List WData) (vs : List Value), WellAll Pm h vs ds → plWs ds = true → (∀ u ∈ vs, OkU A u) → DwAll K (argH K h A) (vs.map toV) ds
  | [], _, x, _, _ => by
    cases x
    exact .nil
  | d :: ds, _, x, p, hu => by
    obtain ⟨v, vs, rfl, x1, x2⟩ := well_cons x
    have q : plW d = true ∧ plWs ds = true := Bool.and_eq_true_iff.mp p
    exact .cons (dw_one KX ar d v x1 q.1 (hu _ (List.mem_cons_self ..))) (dw_all KX ar ds vs x2 q.2 fun u m => hu u (List.mem_cons_of_mem _ m))
end
end
/-! ### the call -/
theorem spec_call {P : Program} {w : World} {K : PySem.W.Frag} {mg mb : Str → Option Value} {CX : CXT} {k : Nat} {fa : Addr} {fd : FuncData} {ps : List Str} {sp : Sp} {s₁ : Shared} {vals : List Value} {ds : List WData} {R : PySem.W.WRecords} {cl : Str → Option Addr} {d0 : WData}
    (KX : K.In s₁.heap) (hns : s₁.heap.Ns mainGlobals mg) (hb : s₁.heap.Ns builtinsNs mb) (hbb : ∀ x : Str, x ≠ "__name__" → mb x = bootBuiltins x) (hlim : s₁.heap.NoLimit) (hg : s₁.gens = #[])
    (hwl : WellAll w.params s₁.heap vals ds) (hpl : plWs ds = true) (hwt : ∀ d ∈ ds, d.weight ≤ 1048576) (hr : Room k callerA)
    (F : ∀ base : Heap, K.In base → base.Ns mainGlobals mg → FnOk P w K mg base CX k fa fd ps sp) (hbind : ∀ (s : Shared) (us : List Value), us.length = ps.length → BindsTo s fd ⟨us, []⟩ (ps.zip us)) (hlen : ds.length = ps.length)
    (hsp : ∀ (H : Hp) (xs : List V), OnlyF H → DwAll K H xs ds → sp xs H (fun v H' => Dw K H' v d0) fun _ _ _ => False)
    (hCX : ∀ H e s', CX [] H s₁ (fun _ _ _ => False) e s' → False) :
    codeAny (model P w) callerA (.call (.ref fa) ⟨vals, []⟩) (fun r s' => ∃ u as, r = .ok (.ret u) ∧ ReadsW R cl s'.heap u d0 as ∧ OldK s₁.heap s'.heap ∧ s'.os = s₁.os ∧ AllBare s'.gens) s₁ := by
  obtain ⟨A, ho, ar⟩ := area_all ds vals hwl hpl hwt
  have hO : OnlyF (argH K s₁.heap A) := argH_only ar
  have hok : HOk P w (argH K s₁.heap A) s₁.heap := argH_ok ar
  have hS := dw_all KX ar ds vals hwl hpl ho
  have hV := vals_toV ho
  have hK : ∀ b u, argH K s₁.heap A b = some u → K.lookup b = none := fun b u q => (argH_is ar q).1
  have noA : ∀ {b : Addr} {o : Obj} {es : Array DictEntry} {ep : Nat}, s₁.heap.get? b = some o → o.data = .dict es ep → argH K s₁.heap A b = none := fun {b o es ep} e d => by
    cases q : argH K s₁.heap A b with
    | none => rfl
    | some u =>
      obtain ⟨_, vs, _, _, ⟨e2, _⟩ | ⟨e2, _⟩⟩ := argH_is ar q
      · rw [e2] at e
        cases e
        have d' : Data.seq vs.toArray _ = Data.dict es ep := d
        cases d'
      · rw [e2] at e
        cases e
        have d' : Data.seq vs.toArray _ = Data.dict es ep := d
        cases d'
  generalize argH K s₁.heap A = H at hO hok hS hK noA
  have base_of : ∀ {b : Addr} {o : Obj}, s₁.heap.get? b = some o → H b = none → (hidT s₁.heap H).get? b = some o := fun e n => hidT_get e n
  have nsK : ∀ {b : Addr} {m : Str → Option Value}, s₁.heap.Ns b m → (hidT s₁.heap H).Ns b m := fun {b m} ⟨o, es, ep, e, d, r⟩ => ⟨o, es, ep, base_of e (noA e d), d, r⟩
  have nK : ∀ b o, K.lookup b = some o → H b = none := fun b o e => by
    cases q : H b with
    | none => rfl
    | some u =>
      rw [hK b u q] at e
      cases e
  have hKb : K.In (hidT s₁.heap H) := fun b o e => base_of (KX b o e) (nK b o e)
  have hM : Mod K mg (hidT s₁.heap H) := ⟨hKb, nsK hns, ⟨mb, nsK hb, hbb⟩, let ⟨mc, h1, h2⟩ := hlim; ⟨mc, nsK h1, h2⟩⟩
  have e0 : Env0 P w K mg (hidT s₁.heap H) callerA [] s₁ H := ⟨rfl, hM, fun b o e => of_hidT e, Nat.le_of_eq (hidT_size _ _), trivial, fun b hb => absurd (show b ∈ ([] : List Addr) from hb) (by simp), hok, .of_eq hg⟩
  have hl : vals.length = ps.length := by rw [wellAll_len hwl]; exact hlen
  refine codeAny_mono ((F _ hKb (nsK hns)).run callerA [] s₁ H ⟨vals, []⟩ vals (vals.map toV) _ _ hr e0 (hbind s₁ vals hl) hV (hsp H _ hO hS)) fun r s' x => ?_
  cases r with
  | error e => exact (hCX H e s' x).elim
  | ok fl =>
    cases fl with
    | next => exact False.elim x
    | brk => exact False.elim x
    | cont => exact False.elim x
    | ret u =>
      obtain ⟨v, H', os, bare, un, hok', r', q⟩ := x
      have kept : ∀ b o, s₁.heap.get? b = some o → s'.heap.get? b = some o := fun b o e => by
        cases q2 : H b with
        | none => exact un.keep b o e q2 (by intro z; exact absurd (show b ∈ ([] : List Addr) from z) (by simp)) (by simp)
        | some u2 =>
          rcases hO b with z | ⟨ob, u3, z⟩
          · rw [q2] at z
            cases z
          · have z2 := un.frzs b ob _ z
            obtain ⟨e1, _⟩ := hok b _ z
            obtain ⟨e2, _⟩ := hok' b _ z2
            rw [e] at e1
            cases e1
            exact e2
      have KX' : K.In s'.heap := fun b o e => kept b o (KX b o e)
      obtain ⟨as, hrd⟩ := Dw.reads (R := R) (cl := cl) hok' KX' d0 v u q r'
      exact ⟨u, as, rfl, hrd, OldK.of_keep kept, os, bare⟩
/-! ### the row -/
theorem layable_weight {ds : List WData} (h : WData.layableAll ds = true) : ∀ d ∈ ds, d.weight ≤ 1048576 := fun d hd =>
  (PySem.W.layableW_iff.mp (List.all_eq_true.mp h d hd)).2.2
theorem encAll_len : ∀ (cs : List Codec) (a : Codec.denoteAll cs), (Codec.encAll cs a).length = cs.length
  | [], _ => rfl
  | c :: cs, a => by
    show (Codec.encAll cs a.2).length + 1 = cs.length + 1
    rw [encAll_len cs a.2]
/-- the goal that k_headS leaves (case hc), from the promise of the row's def: whatever the arguments that the codecs let and the row asks for, the def gives what stands for enc (f ..) -/
theorem walk_spec {r : OpenSpec} {k : Nat} {q : Program} {loose : List Str} {XP : (Str → Option Value) → Heap → Prop} {YP : World → Heap → Prop} {d : DefRec} {K : Params → PySem.W.Frag} {CX : World → CXT} {ps : List Str} {sp : World → Sp}
    (hwell : r.wellSaid = true) (hdf : d.params.defaults = []) (hlen : r.args.length = ps.length) (hr : Room k callerA)
    (hY : ∀ (w : World) (h : Heap), YP w h → (K w.params).In h)
    (F : ∀ (w : World) (mg : Str → Option Value) (fa : Addr) (h : Heap), YP w h → (K w.params).In h → h.Ns mainGlobals mg → mg d.name = some (.ref fa) →
      ∃ fd : FuncData, (∀ (s : Shared) (us : List Value), us.length = ps.length → BindsTo s fd ⟨us, []⟩ (ps.zip us)) ∧
        ∀ base : Heap, (K w.params).In base → base.Ns mainGlobals mg → FnOk r.prog w (K w.params) mg base (CX w) k fa fd ps (sp w))
    (hsp : ∀ (w : World) (H : Hp) (xs : List V) (a : Codec.denoteAll r.args), OnlyF H → Codec.withinAll r.args a = true → Codec.app r.args r.asked a = true → DwAll (K w.params) H xs (Codec.encAll r.args a) →
      sp w xs H (fun v H' => Dw (K w.params) H' v (r.ret.enc (Codec.app r.args r.f a))) fun _ _ _ => False)
    (hCX : ∀ (w : World) (H : Hp) (s : Shared) (e : Value) (s' : Shared), CX w [] H s (fun _ _ _ => False) e s' → False) :
    PySem.W.WalkOS q loose XP YP r d [] (fun f vs => PySem.call f vs) := by
  intro w s_0 s₁ mg mb G Y fa o pm cd doc dV kV ho hd hcd hD hmg hg args vals as hpre hlay hrd hwl hlo
  obtain ⟨a, e1, e2⟩ := PySem.W.os_pre_some hpre
  obtain ⟨e3, hwi⟩ := Codec.encAll_of_decAll r.args args a e1
  subst e3
  have KX := hY w _ Y
  obtain ⟨fd, hb, hF⟩ := F w mg fa _ Y KX G.T.g hmg
  refine PySem.W.enter_call (codeAny_mono (spec_call (R := []) (cl := classAt s_0.heap) (d0 := r.ret.enc (Codec.app r.args r.f a)) KX G.T.g G.T.b G.T.builtins G.T.nolimit hg hwl (pl_encAll _ _) (layable_weight hlay) hr hF hb (by rw [encAll_len]; exact hlen)
    (fun H xs hO hS => hsp w H xs a hO hwi e2 hS) fun H e s' => hCX w H s₁ e s') fun r' s' hq => ?_)
  obtain ⟨u, as', rfl, h1, h2, h3, h4⟩ := hq
  exact ⟨.inl ⟨u, _, as', rfl, fun _ => rfl, h1, (OpenSpec.post_iff hwell hwi _ _).mpr rfl, fun z => Bool.noConfusion (show false = true from z)⟩, h2, h3, h4⟩
end L2
-- rests on (row put in by the clerk, for the bench that shows a file only what it spells): KE.SpHead KE.OsShapes
end
end

section
set_option Elab.async false
set_option linter.all false
set_option maxRecDepth 100000
/-! Exceptions of one's own over the layer: how one lies behind a call; raise; try. -/
namespace L2
open PySem PySem.Spec PyProof.Rows PySem.W

/-- an exception at e that some frame has noted, whatever its flight -/
def FlyT (B : Heap) (l : List Env) (e : Addr) (cls a0 : Value) (h : Heap) : Prop :=
  B.StaysIn h ∧ B.get? e = none ∧ h.FunFrames B l ∧ ∃ fl, h.TracedAtW B e cls a0 fl
/-- one that no frame has noted -/
def FreshX (h : Heap) (e : Addr) (cls a0 : Value) : Prop :=
  ∃ oe vs, h.get? e = some oe ∧ (oe.cls = cls ∧ vs[0]? = some a0) ∧ oe.data = .fields vs ∧ vs[1]? = some .none
def FlyB (B : Heap) (l : List Env) (e : Addr) (cls a0 : Value) (h : Heap) : Prop :=
  B.StaysIn h ∧ B.get? e = none ∧ h.FunFrames B l ∧ (FreshX h e cls a0 ∨ ∃ fl, h.TracedAtW B e cls a0 fl)
theorem FlyT.b {B h : Heap} {l : List Env} {e : Addr} {cls a0 : Value} (x : FlyT B l e cls a0 h) : FlyB B l e cls a0 h := ⟨x.1, x.2.1, x.2.2.1, .inr x.2.2.2⟩
theorem FlyT.there {B h : Heap} {l : List Env} {e : Addr} {cls a0 : Value} (x : FlyT B l e cls a0 h) : ∃ ob, h.get? e = some ob ∧ ob.cls = cls := x.2.2.2.choose_spec.there
theorem FlyT.tail {B h : Heap} {env : Env} {l : List Env} {e : Addr} {cls a0 : Value} (x : FlyT B (env :: l) e cls a0 h) : FlyT B l e cls a0 h :=
  ⟨x.1, x.2.1, x.2.2.1.2.2, x.2.2.2⟩
/-- a record's field is stored: all else is as it was -/
theorem rec_other {h : Heap} {T : Addr} {i : Nat} {v : Value} {b : Addr} (n : b ≠ T) : (h.update T (Obj.mapFields (·.setIfInBounds i v))).get? b = h.get? b := Heap.get?_update_other _ _ (Ne.symm n)
theorem rec_apart {h : Heap} {T b : Addr} {oT o : Obj} {ts : Array Value} (hT : h.get? T = some oT) (hd : oT.data = .fields ts) (hb : h.get? b = some o) (nf : ∀ vs, o.data ≠ .fields vs) : b ≠ T := fun q => by
  subst q
  rw [hT] at hb
  cases hb
  exact nf ts hd
section
variable {M : Model} {A : Around} {E : Value → Shared → Prop} {s : Shared} {B : Heap} {env : Env} {outer l : List Env} {L e : Addr} {cls a0 : Value} {Q : Unit → Shared → Prop}
theorem fb_note (hfr : A.frames = some (env :: outer)) (hf : env.frame = some L) (x : FlyB B (env :: outer) e cls a0 s.heap)
    (hQ : ∀ h', FlyT B (env :: outer) e cls a0 h' → s.heap.UpToSlots h' → Q () { s with heap := h' }) : wpAny M A (noteFrame (.ref e) env) Q E s := by
  obtain ⟨f1, f2, f3, f4⟩ := x
  rcases f4 with ⟨oe, vs, he, ⟨hcls, h0⟩, hd, h1⟩ | ⟨fl, oe, vs, T, oT, ts, he, ⟨hcls, h0⟩, hd, h1, hnT, hTe, hT, hdT, h3⟩
  · subst hcls
    unfold noteFrame
    simp only [hf]
    refine wpAny_bind (wpAny_field he hd h1 ?_)
    rw [if_neg (by decide)]
    refine wpAny_entryW hfr f3 hf he f1 f2 hd (Array.getElem?_eq_some_iff.mp h1).1 h0 fun h' hN => ?_
    exact hQ h' ⟨hN.1, f2, hN.2.1, _, hN.2.2.1⟩ hN.2.2.2
  · by_cases hm : fl = rawInt L
    · subst hm
      have tr : s.heap.TracedAtW B e cls a0 (rawInt L) := ⟨oe, vs, T, oT, ts, he, ⟨hcls, h0⟩, hd, h1, hnT, hTe, hT, hdT, h3⟩
      exact wpAny_noteFrame_againW hf tr (hQ s.heap ⟨f1, f2, f3, _, tr⟩ (.refl _))
    · subst hcls
      unfold noteFrame
      simp only [hf]
      refine wpAny_bind (wpAny_field he hd h1 ?_)
      rw [if_pos (by simp)]
      refine wpAny_bind (wpAny_field hT hdT h3 ?_)
      rw [if_neg (fun q => hm (beq_iff_eq.mp q))]
      refine wpAny_bind (wpAny_setField hT hdT (Array.getElem?_eq_some_iff.mp h3).1 ?_)
      refine wpAny_entryW hfr (f3.of_keeps fun b o hb nf => ⟨o, (rec_other (rec_apart hT hdT hb nf)).trans hb, rfl⟩) hf ((rec_other hTe.symm).trans he) (fun b o hb => (rec_other ?_).trans (f1 b o hb)) f2 hd (Array.getElem?_eq_some_iff.mp h1).1 h0
        fun h' hN => hQ h' ⟨hN.1, f2, hN.2.1, _, hN.2.2.1⟩ fun b o hb nf => hN.2.2.2 b o ((rec_other (rec_apart hT hdT hb nf)).trans hb) nf
      intro q
      subst q
      rw [hnT] at hb
      cases hb
theorem fb_flight {fr : Option Addr} (x : FlyT B l e cls a0 s.heap) (hQ : ∀ h', FlyT B l e cls a0 h' → s.heap.UpToSlots h' → Q () { s with heap := h' }) :
    wpAny M A (setFlight (.ref e) fr) Q E s := by
  obtain ⟨f1, f2, f3, fl, oe, vs, T, oT, ts, he, hcls, hd, h1, hnT, hTe, hT, hdT, h3⟩ := x
  have hz : 3 < ts.size := (Array.getElem?_eq_some_iff.mp h3).1
  unfold setFlight
  refine wpAny_bind (wpAny_field he hd h1 ?_)
  rw [if_pos (by simp)]
  refine wpAny_setField hT hdT hz (hQ _ ⟨fun b o hb => (rec_other ?_).trans (f1 b o hb), f2, f3.of_keeps fun b o hb nf => ⟨o, (rec_other (rec_apart hT hdT hb nf)).trans hb, rfl⟩, fr.elim Value.none fun f => rawInt f,
    oe, vs, T, _, _, (rec_other hTe.symm).trans he, hcls, hd, h1, hnT, hTe, Heap.get?_update_self _ hT (Obj.isFreed_of_fields (Obj.data_mapFields hdT _)), Obj.data_mapFields hdT _, by simp [hz]⟩ fun b o hb nf => ⟨o.slots, (rec_other (rec_apart hT hdT hb nf)).trans hb⟩)
  intro q
  subst q
  rw [hnT] at hb
  cases hb
theorem fb_leaving (hfr : A.frames = some (env :: outer)) (hf : env.frame = some L) (x : FlyB B (env :: outer) e cls a0 s.heap)
    (hQ : ∀ h', FlyT B outer e cls a0 h' → s.heap.UpToSlots h' → Q () { s with heap := h' }) : wpAny M A (leaving env (.ref e)) Q E s := by
  unfold leaving
  refine wpAny_bind (fb_note hfr hf x fun h1 x1 u1 => ?_)
  exact fb_flight (s := { s with heap := h1 }) x1 fun h2 x2 u2 => hQ h2 x2.tail (u1.trans u2)
theorem fb_pass {what : String} {Qf : Value → Shared → Prop} (x : FlyT B l e cls a0 s.heap) (hE : ∀ h', FlyT B l e cls a0 h' → s.heap.UpToSlots h' → E (.ref e) { s with heap := h' }) :
    wpAny M A (PySem.passOn what (.ref e) env : Sem Value) Qf E s := by
  have x0 := x
  obtain ⟨f1, f2, f3, fl, oe, vs, T, oT, ts, he, hcls, hd, h1, _⟩ := x0
  unfold PySem.passOn
  refine wpAny_bind (wpAny_field he hd h1 ?_)
  rw [if_neg (by simp)]
  exact wpAny_bind (fb_flight x fun h2 x2 u2 => wpAny_throw (hE h2 x2 u2))
end

/-! ### the state behind an exception -/
theorem ObjOk.there {P : Program} {w : World} {H : Hp} {h : Heap} {a : Addr} {o : HO} (x : ObjOk P w H h a o) : ∃ ob, h.get? a = some ob := by
  cases o with
  | lst xs => obtain ⟨_, _, _, _, e⟩ := x; exact ⟨_, e⟩
  | tup xs => obtain ⟨_, _, _, ob, e, _⟩ := x; exact ⟨_, e⟩
  | dK kvs => obtain ⟨_, _, _, _, o, _, _, e, _⟩ := x; exact ⟨_, e⟩
  | dT kvs => obtain ⟨_, _, _, _, o, _, _, e, _⟩ := x; exact ⟨_, e⟩
  | set S n => obtain ⟨o, _, _, _, e, _⟩ := x; exact ⟨_, e⟩
  | ins C dx fs => obtain ⟨_, _, _, e, _⟩ := x; exact ⟨_, e⟩
  | own y => exact x
  | xd fs => obtain ⟨_, ⟨_, _, _, e, _⟩, _⟩ := x; exact ⟨_, e⟩
  | rng lo hi => obtain ⟨_, _, _, e⟩ := x; exact ⟨_, e⟩
  | frz ob u => obtain ⟨e, _⟩ := x; exact ⟨_, e⟩
  | tbl ps => exact ⟨_, (show h.get? a = some _ from x)⟩
  | met f y => exact ⟨_, (show h.get? a = some _ from x)⟩
  | ext φ => obtain ⟨_, e, _⟩ := x; exact e

/-- behind an exception at e of class cls, seen from the frames l, over the base B; ch: records of one's own that may have changed -/
structure FlyW (P : Program) (w : World) (B : Heap) (a0 : Value) (l : List Env) (ch : List Addr) (H : Hp) (s : Shared) (e : Addr) (cls : Value) (H' : Hp) (s' : Shared) : Prop where
  os : s'.os = s.os
  bare : AllBare s'.gens
  un : Un (frs l) ch H H' s.heap s'.heap
  hok : HOk P w H' s'.heap
  nf : ∀ b ∈ frs l, H' b = none
  nc : ∀ b ∈ ch, H' b = none
  fb : FlyB B l e cls a0 s'.heap
  hB : ∀ b o, s'.heap.get? b = some o → b ∉ frs l → b ∉ ch → ((∃ u, H' b = some u) ∨ ∃ o', s.heap.get? b = some o') → B.get? b = some o
def Fly (P : Program) (w : World) (l : List Env) (ch : List Addr) (H : Hp) (s : Shared) (e : Addr) (cls : Value) (H' : Hp) (s' : Shared) : Prop := ∃ B a0, FlyW P w B a0 l ch H s e cls H' s'
def CXx (P : Program) (w : World) : CXT := fun outer H s E e s' => ∃ a cls H', e = .ref a ∧ Fly P w outer [] H s a cls H' s' ∧ E cls none H'
/-- what a context makes of an exception that arises in it -/
def XP (X : Cx) (E : XK) : Prop := ∀ (pins : List (Addr × Obj)) (σ : St) (H : Hp) (s : Shared) (e : Addr) (cls : Value) (H' : Hp) (s' : Shared) (ch : List Addr), Inv X pins σ H s → (∀ b ∈ ch, FpOk X pins H' b) →
  Fly X.prog X.w X.stack ch H s e cls H' s' → E cls none H' → X.xe (.ref e) s'
def XP0 (X : Cx) (E : XK) : Prop := ∀ (pins : List (Addr × Obj)) (σ : St) (H : Hp) (s : Shared) (e : Addr) (cls : Value) (H' : Hp) (s' : Shared), Inv X pins σ H s →
  Fly X.prog X.w X.stack [] H s e cls H' s' → E cls none H' → X.xe (.ref e) s'
theorem XP.xp0 {X : Cx} {E : XK} (x : XP X E) : XP0 X E := fun pins σ H s e cls H' s' I F h => x pins σ H s e cls H' s' [] I (fun b hb => absurd hb (by simp)) F h
theorem XP0.passes {X : Cx} {E : XK} (x : XP0 X E) : Passes (CXx X.prog X.w) X E := fun pins σ H s e s' I ⟨a, cls, H', ea, F, h⟩ => by
  subst ea
  exact x pins σ H s a cls H' s' I F h
theorem passes0 {X : Cx} {P : Program} {w : World} : Passes (CXx P w) X E0 := fun _ _ _ _ _ _ _ ⟨_, _, _, _, _, h⟩ => h.elim

section
variable {P : Program} {w : World} {B B' : Heap} {a0 : Value} {l : List Env} {ch ch' : List Addr} {H H' : Hp} {s s' : Shared} {e : Addr} {cls : Value}
theorem FlyW.frm (F : FlyW P w B a0 l ch H s e cls H' s') {h' : Heap} (up : s'.heap.UpToSlots h') : ∀ b ∈ frs l, ∀ o, s'.heap.get? b = some o → ∃ sl, h'.get? b = some { o with slots := sl } := fun b hb o q => by
  obtain ⟨_, o2, ho2, hnf⟩ := F.fb.2.2.1.mem hb
  rw [q] at ho2
  cases ho2
  exact up b o q hnf
/-- it has moved on: the base stays but for ch', the frames are kept up to slots -/
theorem FlyW.moved {h' : Heap} (F : FlyW P w B a0 l ch H s e cls H' s') (hcc : ∀ b ∈ ch, b ∈ ch') (nc : ∀ b ∈ ch', H' b = none) (BB : ∀ b o, B.get? b = some o → b ∉ ch' → B'.get? b = some o) (fb' : FlyB B' l e cls a0 h')
    (frm : ∀ b ∈ frs l, ∀ o, s'.heap.get? b = some o → ∃ sl, h'.get? b = some { o with slots := sl })
    (th : ∀ b o, s.heap.get? b = some o → b ∉ ch' → ∃ o', s'.heap.get? b = some o') : FlyW P w B' a0 l ch' H s e cls H' { s' with heap := h' } := by
  have inB : ∀ b o, s'.heap.get? b = some o → b ∉ frs l → b ∉ ch' → ((∃ u, H' b = some u) ∨ ∃ o', s.heap.get? b = some o') → B'.get? b = some o := fun b o q n1 n2 r => BB b o (F.hB b o q n1 (fun z => n2 (hcc b z)) r) n2
  have go : ∀ b o, s'.heap.get? b = some o → b ∉ frs l → b ∉ ch' → ((∃ u, H' b = some u) ∨ ∃ o', s.heap.get? b = some o') → h'.get? b = some o := fun b o q n1 n2 r => fb'.1 b o (inB b o q n1 n2 r)
  have notch : ∀ b u, H' b = some u → b ∉ ch' := fun b u q hc => by rw [nc b hc] at q; cases q
  have notfr : ∀ b u, H' b = some u → b ∉ frs l := fun b u q hb => by rw [F.nf b hb] at q; cases q
  refine ⟨F.os, F.bare, ⟨fun b o q n hb hx => ?_, fun b o q n hb hx => ?_, fun b o q n hx => F.un.free b o q n fun z => hx (hcc b z), fun b o q hx => ?_, F.un.tups, F.un.frzs, F.un.tbls⟩, fun b u q => ?_, F.nf, nc, fb', fun b o q n1 n2 r => ?_⟩
  · exact go b o (F.un.keep b o q n hb fun z => hx (hcc b z)) hb hx (.inr ⟨o, q⟩)
  · obtain ⟨sl, e1⟩ := F.un.slot b o q n hb fun z => hx (hcc b z)
    obtain ⟨sl', e2⟩ := frm b hb _ e1
    exact ⟨sl', e2⟩
  · obtain ⟨o', e1⟩ := th b o q hx
    by_cases hb : b ∈ frs l
    · obtain ⟨sl', e2⟩ := frm b hb _ e1
      exact ⟨_, e2⟩
    · exact ⟨o', go b o' e1 hb hx (.inr ⟨o, q⟩)⟩
  · refine (F.hok b u q).stay (fun c v hc r => ?_) (fun _ r => r) fun _ _ r => r
    have tr : ∃ u, H' c = some u := by
      rcases hc with rfl | hc
      · exact ⟨u, q⟩
      · exact ⟨_, hc⟩
    obtain ⟨u', hu'⟩ := tr
    exact go c v r (notfr c u' hu') (notch c u' hu') (.inl ⟨u', hu'⟩)
  · have hs : ∃ o2, s'.heap.get? b = some o2 := by
      rcases r with ⟨u, hu⟩ | ⟨o', ho'⟩
      · exact (F.hok b u hu).there
      · exact th b o' ho' n2
    obtain ⟨o2, e2⟩ := hs
    have e3 := inB b o2 e2 n1 n2 r
    have e4 := fb'.1 b o2 e3
    have q' : h'.get? b = some o := q
    rw [q'] at e4
    cases e4
    exact e3
/-- .. over the same base -/
theorem FlyW.up {h' : Heap} (F : FlyW P w B a0 l ch H s e cls H' s') (ft : FlyB B l e cls a0 h') (up : s'.heap.UpToSlots h') : FlyW P w B a0 l ch H s e cls H' { s' with heap := h' } :=
  F.moved (fun _ z => z) F.nc (fun _ _ q _ => q) ft (F.frm up) fun b o q hx => F.un.there b o q hx
end
section
variable {X : Cx} {pins : List (Addr × Obj)} {σ : St} {H H' : Hp} {s s' : Shared} {e : Addr} {cls : Value} {ch : List Addr} {B : Heap} {a0 : Value}
/-- back in the context: what holds behind it -/
theorem FlyW.inv (I : Inv X pins σ H s) (hch : ∀ b ∈ ch, FpOk X pins H' b) (F : FlyW X.prog X.w B a0 X.stack ch H s e cls H' s') : Inv X pins σ H' s' :=
  I.call' (ch := ch) F.os F.un F.hok F.bare fun b hb => ⟨(hch b hb).2.2.2.1, (hch b hb).2.1, (hch b hb).2.2.2.2.1, (hch b hb).2.2.2.2.2⟩
/-- an exception that is made here -/
theorem Fly.made {h' : Heap} {vs : List Value} (I : Inv X pins σ H s) (m : Heap.MadeExcOf s.heap h' e cls vs) : Fly X.prog X.w X.stack [] H s e cls H { s with heap := h' } := by
  obtain ⟨t, he, htn, ht⟩ := m.there
  have hin : ∀ env ∈ X.stack, ∀ b, env.frame = some b → b ∈ frs X.stack := fun env hm b hb => List.mem_filterMap.mpr ⟨env, hm, hb⟩
  refine ⟨hideAll s.heap (frs X.stack), .ref t, rfl, I.bare, Un.kept m.keeps, I.hok.kept m.keeps, I.stkFree, fun b hb => absurd hb (by simp), ⟨fun b o q => m.keeps b o (of_hideAll _ q), ?_, ?_, .inl ⟨_, _, he, ⟨rfl, rfl⟩, rfl, rfl⟩⟩, fun b o q n1 _ r => ?_⟩
  · cases q : (hideAll s.heap (frs X.stack)).get? e with
    | none => rfl
    | some o =>
      have z := of_hideAll _ q
      rw [m.new] at z
      cases z
  · exact (funFrames_hide I.stack hin).of_keeps fun b o hb _ => ⟨o, m.keeps b o hb, rfl⟩
  · have hs : ∃ o2, s.heap.get? b = some o2 := by
      rcases r with ⟨u, hu⟩ | h
      · exact (I.hok b u hu).there
      · exact h
    obtain ⟨o2, e2⟩ := hs
    have e3 := m.keeps b o2 e2
    have q' : h'.get? b = some o := q
    rw [q'] at e3
    cases e3
    exact hideAll_get _ e2 n1
end

/-! ### it leaves a def -/
theorem xp_def {P : Program} {w : World} {K : PySem.W.Frag} {mg : Str → Option Value} {base : Heap} {N : List Str} {qual : Str} {scope : Scope} {f : Addr} {cd : Value} {A : Around} {outer : List Env} {s0 : Shared} {H0 : Hp} {E : XK} :
    XP (cxOf (CXx P w) P w K mg base N qual scope f cd A outer s0 H0 E) E := by
  intro pins σ H s e cls H' s' ch I hch ⟨B, a0, F⟩ hE
  have hfr := I.ok.frames
  have stk : (cxOf (CXx P w) P w K mg base N qual scope f cd A outer s0 H0 E).stack = envOfC qual scope s0.heap.objs.size f cd :: outer := rfl
  have exn : ∀ b : Addr, b ∉ (cxOf (CXx P w) P w K mg base N qual scope f cd A outer s0 H0 E).ex := fun b z => absurd (show b ∈ ([] : List Addr) from z) (by simp)
  have fsub : ∀ b, b ∈ frs (cxOf (CXx P w) P w K mg base N qual scope f cd A outer s0 H0 E).stack → b = s0.heap.objs.size ∨ b ∈ frs outer := fun b hb => List.mem_cons.mp (I.stkSub b hb)
  have instk : ∀ b, b ∈ frs outer → b ∈ frs (cxOf (CXx P w) P w K mg base N qual scope f cd A outer s0 H0 E).stack := fun b hb => by
    show b ∈ frs (envOfC qual scope s0.heap.objs.size f cd :: outer)
    unfold frs
    rw [List.filterMap_cons]
    exact List.mem_cons_of_mem _ hb
  have base1 := I.base
  have os1 : s.os = s0.os := I.os
  generalize hl : (cxOf (CXx P w) P w K mg base N qual scope f cd A outer s0 H0 E).stack = l at F fsub instk
  have F0 : FlyW P w B a0 l ch H s e cls H' s' := F
  have hl' : l = envOfC qual scope s0.heap.objs.size f cd :: outer := hl.symm
  show wpAny _ _ (leaving (envOfC qual scope s0.heap.objs.size f cd) (.ref e)) _ _ s'
  refine fb_leaving (L := s0.heap.objs.size) (outer := outer) (B := B) (cls := cls) (a0 := a0) hfr rfl (by rw [← hl']; exact F0.fb) fun h' ft up => ?_
  have st : B.StaysIn h' := ft.1
  have base2 : Un (frs outer) [] H0 H s0.heap s.heap := base1
  have abv : ∀ b o, s0.heap.get? b = some o → b ≠ s0.heap.objs.size := fun b o q => Nat.ne_of_lt (Heap.lt_size q)
  have nstk : ∀ b, b ≠ s0.heap.objs.size → b ∉ frs outer → b ∉ frs l := fun b h1 h2 hb => (fsub b hb).elim h1 h2
  have nch : ∀ b o, s0.heap.get? b = some o → b ∉ ch := fun b o q hc => by
    rcases (hch b hc).2.2.2.1 with z | z
    · exact exn b z
    · exact absurd (Nat.lt_of_lt_of_le (Heap.lt_size q) z) (Nat.lt_irrefl _)
  have go : ∀ b o, s'.heap.get? b = some o → b ∉ frs l → b ∉ ch → ((∃ u, H' b = some u) ∨ ∃ o', s.heap.get? b = some o') → h'.get? b = some o := fun b o q n1 n2 r => st b o (F0.hB b o q n1 n2 r)
  have frm := F0.frm up
  have notch : ∀ b u, H' b = some u → b ∉ ch := fun b u q hc => by rw [F0.nc b hc] at q; cases q
  have notfr : ∀ b u, H' b = some u → b ∉ frs l := fun b u q hb => by rw [F0.nf b hb] at q; cases q
  have no : ∀ b : Addr, b ∉ ([] : List Addr) := fun b => by simp
  refine ⟨e, cls, H', rfl, ⟨B, a0, F0.os.trans os1, F0.bare, ⟨fun b o q n hb _ => ?_, fun b o q n hb _ => ?_, fun b o q n _ => ?_, fun b o q _ => ?_, fun b xs q => F0.un.tups b xs (base2.tups b xs q), fun b o u q => F0.un.frzs b o u (base2.frzs b o u q), fun b ps q => ?_⟩, fun b u q => ?_, fun b hb => F0.nf b (instk b hb), fun b hb => absurd hb (no b), ft.b, fun b o q n1 _ r => ?_⟩, hE⟩
  · have e1 := base2.keep b o q n hb (no b)
    have n1 := base2.free b o q n (no b)
    have ns := nstk b (abv b o q) hb
    exact go b o (F0.un.keep b o e1 n1 ns (nch b o q)) ns (nch b o q) (.inr ⟨o, e1⟩)
  · obtain ⟨sl, e1⟩ := base2.slot b o q n hb (no b)
    have n1 := base2.free b o q n (no b)
    obtain ⟨sl2, e2⟩ := F0.un.slot b _ e1 n1 (instk b hb) (nch b o q)
    obtain ⟨sl3, e3⟩ := frm b (instk b hb) _ e2
    exact ⟨sl3, e3⟩
  · obtain ⟨o1, e1⟩ := base2.there b o q (no b)
    exact F0.un.free b o1 e1 (base2.free b o q n (no b)) (nch b o q)
  · obtain ⟨o1, e1⟩ := base2.there b o q (no b)
    obtain ⟨o2, e2⟩ := F0.un.there b o1 e1 (nch b o q)
    by_cases hb : b ∈ frs l
    · obtain ⟨sl', e3⟩ := frm b hb _ e2
      exact ⟨_, e3⟩
    · exact ⟨o2, go b o2 e2 hb (nch b o q) (.inr ⟨o1, e1⟩)⟩
  · obtain ⟨m1, e1⟩ := base2.tbls b ps q
    obtain ⟨m2, e2⟩ := F0.un.tbls b _ e1
    exact ⟨m1 ++ m2, by rw [e2, Array.append_assoc]⟩
  · refine (F0.hok b u q).stay (fun c v hc r => ?_) (fun _ r => r) fun _ _ r => r
    have tr : ∃ u, H' c = some u := by
      rcases hc with rfl | hc
      · exact ⟨u, q⟩
      · exact ⟨_, hc⟩
    obtain ⟨u', hu'⟩ := tr
    exact go c v r (notfr c u' hu') (notch c u' hu') (.inl ⟨u', hu'⟩)
  · have key : ∀ o2, s'.heap.get? b = some o2 → b ∉ frs l → b ∉ ch → ((∃ u, H' b = some u) ∨ ∃ o', s.heap.get? b = some o') → B.get? b = some o := fun o2 e2 h1 h2 r2 => by
      have e3 := F0.hB b o2 e2 h1 h2 r2
      have e4 := st b o2 e3
      have q' : h'.get? b = some o := q
      rw [q'] at e4
      cases e4
      exact e3
    rcases r with ⟨u, hu⟩ | ⟨o', ho'⟩
    · obtain ⟨o2, e2⟩ := (F0.hok b u hu).there
      exact key o2 e2 (notfr b u hu) (notch b u hu) (.inl ⟨u, hu⟩)
    · obtain ⟨o1, e1⟩ := base2.there b o' ho' (no b)
      obtain ⟨o2, e2⟩ := F0.un.there b o1 e1 (nch b o' ho')
      exact key o2 e2 (nstk b (abv b o' ho') n1) (nch b o' ho') (.inr ⟨o1, e1⟩)

/-- THE RULE for a def whose exceptions lie as CXx says -/
theorem Fun.okx {P : Program} {w : World} {K : PySem.W.Frag} {mg : Str → Option Value} {base : Heap} {x qual : Str} {st : Stmt} {f : Addr} {fd : FuncData} {N ps : List Str} {k : Nat} {sp : Sp} (F : Fun K x qual st f fd) (S : FnScope N ps (defScope st)) (len : ∀ vs H Q E, sp vs H Q E → vs.length = ps.length)
    (hbody : ∀ (cdv : Value) (A : Around) (outer : List Env) (s : Shared) (H : Hp) (vs : List V) (Q : VK) (E : XK), Room k (A.deeper (envOfC qual (defScope st) s.heap.objs.size f cdv)) → sp vs H Q E →
      ∃ t, PSs (cxOf (CXx P w) P w K mg base N qual (defScope st) f cdv A outer s H E) (defBody st) t ∧ t { nx := fun _ H' => Q .non H', rt := Q } (start N vs) H) : FnOk P w K mg base (CXx P w) (k + 1) f fd ps sp := by
  obtain ⟨oc, od, kV, doc, pm, an, cdv, ct, osl, rfl, lk, hcd⟩ := F.ex
  exact fn_of lk hcd S len fun A outer s H vs Q E hr hsp => hbody cdv A outer s H vs Q E hr hsp

/-! ### raise -/
/-- an exception class of the text's own -/
theorem exc_at {K : Frag} {h : Heap} {C : Addr} {bmB : List Value} {newId : String} (X : K.In h) (q : excIn K C bmB newId = true) :
    ∃ tl N nm qn bs hdct sn sub ab col dd k0 k1 k2 k3 k5 mN, h.get? C = some (excClassObj nm qn C N bs tl hdct sn sub ab col dd k0 k1 k2 k3 k5 newId) ∧ h.Ns N mN ∧ mN "__init__" = none ∧ OwnTail h bmB tl := by
  unfold excIn at q
  split at q
  · rename_i dd cd sl ho
    split at q
    · rename_i C' bm k0 k1 k2 k3 n k5 hm hs
      simp only [Bool.and_eq_true, beq_iff_eq, Bool.not_eq_true'] at q
      obtain ⟨⟨⟨⟨⟨e1, e2⟩, hdel⟩, ht⟩, hok⟩, hni⟩ := q
      subst e1
      subst e2
      have hsl : sl = #[k0, k1, k2, k3, some (.builtin n), k5] := Array.toList_inj.mp hs
      subst hsl
      cases cd
      simp only at hm hdel hok hni
      subst hm
      subst hdel
      exact ⟨_, _, _, _, _, _, _, _, _, _, _, _, _, _, _, _, _, X _ _ ho, .of_isNs (isNs_of_in X hok), nsMap_none_of_in X hok hni, tail_of_in X ht⟩
    · cases q
  · cases q
/-- raise C(..): the arguments, then the wish -/
def tRaise (C : Addr) (E : XK) (t : TA) : TS := fun _ σ H => t σ H fun vs H1 => vs.length ≤ sizeLine ∧ E (.ref C) none H1
theorem ps_raise {X : Cx} {E : XK} {x : Str} {C : Addr} {B newId initId : String} {bmB : List Value} {e0 : Expr} {es : List Expr} {t : TA} {np cpos pos : Pos} (xp : XP0 X E) (hc : X.calm = true) (hg : Gl X x) (hm : X.mg x = some (.ref C)) (hx : excIn X.K C bmB newId = true) (FB : ExcBaseFacts B newId initId bmB)
    (ha : PA X (e0 :: es) t) (hd : (x == ("__debug__" : Str)) = false := by decide) (he : starEach (e0 :: es) X.env = (false, eval e0 X.env) :: starEach es X.env := by rfl) (hpl : (backTo cpos (starEach es X.env)).any (·.1) = false := by rfl) :
    PS X (.Raise (some (.Call (.Name x np) (e0 :: es) [] cpos)) none pos) (tRaise C E t) := by
  intro pins s σ H D I h
  obtain ⟨tl, N, nm, q, bs, hdct, sn, sub, ab, col, dd, k0, k1, k2, k3, k5, mN, hC, hN, hni, T⟩ := exc_at I.mod.kin hx
  refine wpAny_Raise_call_subT (C := C) (nm := nm) (q := q) (N := N) (bs := bs) (bm := tl) (hdct := hdct) (sn := sn) (sub := sub) (ab := ab) (col := col) (dd := dd) (k0 := k0) (k1 := k1) (k2 := k2) (k3 := k3) (k5 := k5)
    FB (mN := mN) (T.hasType FB.hasBase) (I.ok.hd hc) ?_ hni (ld_glob I hg hm ⟨rfl, ?_⟩ hd)
  · rw [he]
    show (false || (backTo cpos (starEach es X.env)).any (·.1)) = false
    rw [hpl]
    rfl
  · have hh := ha cpos pins s σ H _ I h
    rw [he] at hh ⊢
    refine Calls.evalArgs_plain (wpAny_mono hh (fun vs s2 h2 => ?_) fun _ _ y => y)
    obtain ⟨ws, H1, I1, r, hz, hE⟩ := h2
    exact ⟨rfl, by rw [← r.length]; exact hz, I1.bk _ _ hC, hN.keeps I1.bk, T.keeps I1.bk, fun h' e m => xp pins σ H1 s2 e (.ref C) H1 _ I1 (Fly.made I1 m) hE⟩

/-! ### try -/
/-- the wish within a try: it is that class, and the suite does the rest -/
def EX (C : Addr) (Wt : Hp → Prop) : XK := fun cls _ H' => cls = .ref C ∧ Wt H'
/-- no local is known -/
def noneS (σ : St) : St := σ.map fun _ => none
theorem noneS_length (σ : St) : (noneS σ).length = σ.length := List.length_map ..
theorem noneS_some {σ : St} {i : Nat} {v : V} : (noneS σ)[i]? = some (some v) → False := by
  unfold noneS
  rw [List.getElem?_map]
  cases σ[i]? <;> simp
abbrev Cx.tri (X : Cx) (pn : List (Addr × Obj)) (E : Value → Shared → Prop) : Cx := { X with pn := pn, xe := E }
abbrev Cx.suite (X : Cx) (e : Value) : Cx := { X with A := X.A.mark (some e), calm := false, xe := fun _ _ => False }
section
variable {X : Cx} {pins pins2 : List (Addr × Obj)} {σ : St} {H : Hp} {s : Shared} {E : Value → Shared → Prop}
theorem Cx.Ok.tri {pn : List (Addr × Obj)} (o : X.Ok) : (X.tri pn E).Ok := ⟨o.mod, o.kind, o.glob, o.blt, o.above, o.inj, o.has, o.cab, o.hd, o.frames, o.stk, o.exf, o.bs, o.bsz, o.noex, o.exfs, o.funs, o.frf⟩
theorem Cx.Ok.untri {pn : List (Addr × Obj)} (o : (X.tri pn E).Ok) : X.Ok := ⟨o.mod, o.kind, o.glob, o.blt, o.above, o.inj, o.has, o.cab, o.hd, o.frames, o.stk, o.exf, o.bs, o.bsz, o.noex, o.exfs, o.funs, o.frf⟩
theorem Cx.Ok.suite {e : Value} (o : X.Ok) : (X.suite e).Ok := ⟨o.mod, o.kind, o.glob, o.blt, o.above, o.inj, o.has, o.cab, fun z => (Bool.false_ne_true z).elim, o.frames, o.stk, o.exf, o.bs, o.bsz, o.noex, o.exfs, o.funs, o.frf⟩
theorem Cx.Ok.unsuite {e : Value} (o : (X.suite e).Ok) (c : X.calm = true → X.A.handled = none) : X.Ok := ⟨o.mod, o.kind, o.glob, o.blt, o.above, o.inj, o.has, o.cab, c, o.frames, o.stk, o.exf, o.bs, o.bsz, o.noex, o.exfs, o.funs, o.frf⟩
theorem Inv.tri (I : Inv X pins σ H s) : Inv (X.tri (X.pn ++ pins) E) [] σ H s := ⟨I.ok.tri, I.os, I.bare, I.base, I.loc, I.cell, I.free, I.freeC, fun p hp => I.pin p (by rw [List.append_nil] at hp; exact hp), I.hok, I.len⟩
theorem Inv.untri (I : Inv (X.tri (X.pn ++ pins) E) pins2 σ H s) : Inv X pins σ H s := ⟨I.ok.untri, I.os, I.bare, I.base, I.loc, I.cell, I.free, I.freeC, fun p hp => I.pin p (List.mem_append_left _ hp), I.hok, I.len⟩
theorem Inv.suite {e : Value} (I : Inv X pins σ H s) : Inv (X.suite e) pins σ H s := ⟨I.ok.suite, I.os, I.bare, I.base, I.loc, I.cell, I.free, I.freeC, I.pin, I.hok, I.len⟩
theorem Inv.unsuite {e : Value} (I : Inv (X.suite e) pins σ H s) (c : X.calm = true → X.A.handled = none) : Inv X pins σ H s := ⟨I.ok.unsuite c, I.os, I.bare, I.base, I.loc, I.cell, I.free, I.freeC, I.pin, I.hok, I.len⟩
theorem SP.map {Y : Cx} {p p2 : List (Addr × Obj)} {D : Ends} {f : Flow} (k : ∀ σ H, Inv X p σ H s → Inv Y p2 σ H s) (h : SP X p D f s) : SP Y p2 D f s := by
  cases f with
  | next => obtain ⟨σ', H', J, q⟩ := h; exact ⟨σ', H', k _ _ J, q⟩
  | brk => obtain ⟨σ', H', J, q⟩ := h; exact ⟨σ', H', k _ _ J, q⟩
  | cont => obtain ⟨σ', H', J, q⟩ := h; exact ⟨σ', H', k _ _ J, q⟩
  | ret u => obtain ⟨v, σ', H', J, r, q⟩ := h; exact ⟨v, σ', H', k _ _ J, r, q⟩
end
/-- try: body except C: suite. Of the locals nothing is known in the suite -/
def tTry (tb : (Hp → Prop) → TS) (th : TS) : TS := fun D σ H => tb (fun H' => th D (noneS σ) H') D σ H
theorem ps_try {X : Cx} {x : Str} {C : Addr} {newId : String} {bmB : List Value} {body suite : List Stmt} {b0 : Stmt} {tb : (Hp → Prop) → TS} {th : TS} {np hpos pos : Pos} (hst : X.stack = X.env :: X.outer) (hff : X.env.frame = some X.env.locals)
    (hg : Gl X x) (hm : X.mg x = some (.ref C)) (hx : excIn X.K C bmB newId = true) (hbase : bmB.contains (.type "BaseException") = true)
    (hb : ∀ (Wt : Hp → Prop) (pn : List (Addr × Obj)) (E' : Value → Shared → Prop), XP (X.tri pn E') (EX C Wt) → PSs (X.tri pn E') body (tb Wt)) (hs : ∀ e : Value, PSs (X.suite e) (b0 :: suite) th)
    (hd : (x == ("__debug__" : Str)) = false := by decide) : PS X (.Try body [.ExceptHandler (some (.Name x np)) none (b0 :: suite) hpos] [] [] pos) (tTry tb th) := by
  intro pins s σ H D I h
  refine wpAny_Try_except ?_
  refine wpAny_mono (hb (fun H' => th D (noneS σ) H') (X.pn ++ pins) (fun e s1 => wpAny (model X.prog X.w) X.A (noteFrame e X.env) (fun _ s2 => wpAny (model X.prog X.w) X.A (setFlight e none) (fun _ s3 => wpAny (model X.prog X.w) X.A (handleBy e X.env [.ExceptHandler (some (.Name x np)) none (b0 :: suite) hpos]) (SP X pins D) X.xe s3) X.xe s2) X.xe s1) ?_ [] s σ H D I.tri h) (fun f s1 h1 => ?_) fun _ _ y => y
  · intro pins2 σ2 H2 s2 e cls H3 s3 ch I2 hch ⟨B, a0, F⟩ ⟨ec, hw⟩
    subst ec
    have F : FlyW X.prog X.w B a0 X.stack ch H2 s2 e (.ref C) H3 s3 := F
    show wpAny _ X.A (noteFrame (.ref e) X.env) _ _ s3
    have hfr : X.A.frames = some (X.env :: X.outer) := by rw [← hst]; exact I.ok.frames
    refine fb_note (L := X.env.locals) (outer := X.outer) (B := B) (cls := .ref C) (a0 := a0) hfr hff (by rw [← hst]; exact F.fb) fun h4 t4 u4 => ?_
    refine fb_flight t4 fun h5 t5 u5 => ?_
    rw [← hst] at t5
    have F5 := F.up t5.b (u4.trans u5)
    have I5 : Inv X pins σ2 H3 { s3 with heap := h5 } := Inv.untri (F5.inv (X := X.tri _ _) I2 hch)
    have I5n : Inv X pins (noneS σ) H3 { s3 with heap := h5 } := I5.weak (by rw [noneS_length]; exact I.len.trans I5.len.symm) fun i v z => (noneS_some z).elim
    have Ih : Inv (X.suite (.ref e)) pins (noneS σ) H3 { s3 with heap := h5 } := I5n.suite
    refine wpAny_handleBy_cons (codeAny_handlers_test (ld_glob (X := X.suite (.ref e)) Ih hg hm ?_ hd)) (by intro q; cases q)
    obtain ⟨ob, hob, hobc⟩ := t5.there
    obtain ⟨tl, N, nm, q, bs, hdct, sn, sub, ab, col, dd, k0, k1, k2, k3, k5, mN, hC, hN, hni, T⟩ := exc_at Ih.kIn hx
    refine wpAny_excMatches_sub_self hC hob hobc (T.hasType hbase) (codeAny_handlers_suite ?_)
    refine fb_flight t5 fun h6 t6 u6 => ?_
    have F6 := F5.up t6.b u6
    have I6 : Inv X pins σ2 H3 { s3 with heap := h6 } := Inv.untri (F6.inv (X := X.tri _ _) I2 hch)
    have I6n : Inv X pins (noneS σ) H3 { s3 with heap := h6 } := I6.weak (by rw [noneS_length]; exact I.len.trans I6.len.symm) fun i v z => (noneS_some z).elim
    exact thnF (hs (.ref e) pins _ (noneS σ) H3 D I6n.suite hw) fun f s7 h7 => h7.map fun σ' H' J => J.unsuite I.ok.hd
  · have h2 : SP X pins D f s1 := h1.map fun σ' H' J => J.untri
    cases f with
    | next => exact wpAny_execs_nil h2
    | brk => exact h2
    | cont => exact h2
    | ret u => exact h2

/-! ### a comprehension whose element may raise -/
theorem blk_xp {X : Cx} {E : XK} (xp : XP X E) (hst : X.stack = X.env :: X.outer) (hff : X.env.frame = some X.env.locals) {pins : List (Addr × Obj)} {σ : St} {H3 : Hp} {s3 : Shared} (I3 : Inv X pins σ H3 s3) {scope : Scope} {ce : Env} {fp : List Addr}
    (cL : ce.locals = s3.heap.objs.size) (cF : ce.frame = X.env.frame) (f3 : ∀ b ∈ fp, FpOk X pins H3 b ∧ b < s3.heap.objs.size) {use : Option (Value → Sem Unit)} {Qf : Value → Shared → Prop} {D : Value} :
    XP0 ((X.blk s3 H3 scope ce fp).wish (fun e s' => notedBy (model X.prog X.w) X.A ce (fun e s'' => compPost (model X.prog X.w) X.A X.xe use Qf D s3.heap.objs.size (.error e) s'') e s')) E := by
  intro pins5 σ5 H5 s5 e cls H' s6 I5 ⟨B, a0, F⟩ hE
  have I6 := F.inv I5 (fun b hb => absurd hb (by simp))
  have F : FlyW X.prog X.w B a0 X.stack [] H5 s5 e cls H' s6 := F
  have IX : Inv X pins σ H5 s5 := I3.call' (ch := fp) I5.os I5.base I5.hok I5.bare fun b hb => ⟨(f3 b hb).1.2.2.2.1, (f3 b hb).1.2.1, (f3 b hb).1.2.2.2.2.1, (f3 b hb).1.2.2.2.2.2⟩
  have en : noteFrame (.ref e) ce = noteFrame (.ref e) X.env := by
    unfold noteFrame PySem.frameOf
    rw [cF]
  show wpAny _ X.A (noteFrame (.ref e) ce) _ _ s6
  rw [en]
  have hfr : X.A.frames = some (X.env :: X.outer) := by rw [← hst]; exact I3.ok.frames
  refine fb_note (L := X.env.locals) (outer := X.outer) (B := B) (cls := cls) (a0 := a0) hfr hff (by rw [← hst]; exact F.fb) fun h7 t7 u7 => ?_
  rw [← hst] at t7
  obtain ⟨m, hn, _⟩ := I6.loc
  have hn : s6.heap.Ns ce.locals m := hn
  have hn7 : h7.Ns s3.heap.objs.size m := by rw [← cL]; exact u7.ns hn
  have nC : H' s3.heap.objs.size = none := by
    have z : H' ce.locals = none := I6.free
    rw [cL] at z
    exact z
  have key : ∃ m, h7.Ns s3.heap.objs.size m ∧ ∀ h', Heap.SameBut s3.heap.objs.size h7 h' → ∀ cenv : Env, cenv.locals = s3.heap.objs.size → wpAny (model X.prog X.w) X.A (PySem.passOn "comprehension.variables-let-go" (.ref e) cenv : Sem Value) (fun _ _ => False) X.xe { s6 with heap := h' } := by
    refine ⟨m, hn7, fun h' sb cenv _ => ?_⟩
    generalize hC : s3.heap.objs.size = C at hn7 nC sb
    obtain ⟨oC, es, ep, hoC, hdC, _⟩ := hn7
    have nfr : ∀ b ∈ frs X.stack, b ≠ C := fun b hb z => by
      obtain ⟨_, o, ho, _⟩ := I3.stack.mem hb
      have := Heap.lt_size ho
      rw [z, ← hC] at this
      exact absurd this (Nat.lt_irrefl _)
    have nrec : ∀ b o vs, h7.get? b = some o → o.data = .fields vs → b ≠ C := fun b o vs q d z => by
      rw [z, hoC] at q
      cases q
      rw [hdC] at d
      cases d
    obtain ⟨f1, f2, f3', fl, oe, vs, T, oT, ts, he, hcls, hd, h1, hnT, hTe, hT, hdT, h3⟩ := t7
    have ft : FlyT (hideAll B [C]) X.stack e cls a0 h' := by
      refine ⟨fun b o q => ?_, ?_, ?_, fl, oe, vs, T, oT, ts, (sb.2 e (nrec e oe vs he hd)).trans he, hcls, hd, h1, ?_, hTe, (sb.2 T (nrec T oT ts hT hdT)).trans hT, hdT, h3⟩
      · have nb : b ≠ C := fun z => by
          rw [z, hideAll_none _ (List.mem_cons_self ..)] at q
          cases q
        exact (sb.2 b nb).trans (f1 b o (of_hideAll _ q))
      · exact fresh_of_stays (fun b o q => of_hideAll [C] q) f2
      · have g1 : h7.FunFrames (hideAll B [C]) X.stack := funFrames_base (fun b o q => of_hideAll [C] q) f3'
        have all : ∀ (l : List Env), (∀ b ∈ frs l, b ≠ C) → h7.FunFrames (hideAll B [C]) l → h'.FunFrames (hideAll B [C]) l := by
          intro l
          induction l with
          | nil => intro _ _; trivial
          | cons env r ih =>
            intro hne ⟨hk, ⟨L, o, hf, hnn, ho, hdd⟩, hr⟩
            have hL : L ≠ C := hne L (by unfold frs; rw [List.filterMap_cons, hf]; exact List.mem_cons_self ..)
            exact ⟨hk, ⟨L, o, hf, hnn, (sb.2 L hL).trans ho, hdd⟩, ih (fun b hb => hne b (by unfold frs; rw [List.filterMap_cons, hf]; exact List.mem_cons_of_mem _ hb)) hr⟩
        exact all X.stack nfr g1
      · exact fresh_of_stays (fun b o q => of_hideAll [C] q) hnT
    refine fb_pass ft fun h'' t'' u'' => ?_
    refine xp pins σ H5 s5 e cls H' _ [C] IX (fun b hb => ?_) ⟨hideAll B [C], a0, ?_⟩ hE
    · have eb : b = C := List.mem_singleton.mp hb
      subst eb
      exact I3.fpOk (Nat.le_of_eq hC) nC
    · refine F.moved (fun b hb => absurd hb (by simp)) (fun b hb => by rw [List.mem_singleton.mp hb]; exact nC) (fun b o q n => hideAll_get _ q n) t''.b (fun b hb o q => ?_) fun b o q _ => F.un.there b o q (by simp)
      obtain ⟨_, o2, ho2, hnf⟩ := F.fb.2.2.1.mem hb
      rw [q] at ho2
      cases ho2
      obtain ⟨sl, e7⟩ := u7 b o q hnf
      have e8 : h'.get? b = some { o with slots := sl } := (sb.2 b (nfr b hb)).trans e7
      obtain ⟨sl', e9⟩ := u'' b _ e8 hnf
      exact ⟨sl', e9⟩
  cases use <;> exact key
section
variable {X : Cx}
theorem lc_coreX {pins : List (Addr × Obj)} {s : Shared} {σ : St} {H : Hp} {Q : VK} {elt tg iter : Expr} {ifs : List Expr} {scope : Scope} {own : List (Str × Nat)} {pos pos' : Pos} {wi : TI} {g : TG} {tt : TT} {te : TE} {use : Option (Value → Sem Unit)} {Qf : Value → Shared → Prop}
    (hc : X.calm = true) (hN : X.N.Nodup) (I : Inv X pins σ H s) (hi : PI X tg iter wi) (ok : BlkOk X.N X.env.scope scope own)
    (hg : ∀ (s : Shared) (H : Hp) (C : Addr) (cl : List (Str × Addr)) (fp : List Addr), PG (X.blk s H scope (compEnvC scope cl C X.env) fp) tg g) (ht : ∀ (s : Shared) (H : Hp) (C : Addr) (cl : List (Str × Addr)) (fp : List Addr), PTs (X.blk s H scope (compEnvC scope cl C X.env) fp) ifs tt)
    {E : XK} (xp : XP X E) (hst : X.stack = X.env :: X.outer) (hff : X.env.frame = some X.env.locals) (he : ∀ (s : Shared) (H : Hp) (C : Addr) (cl : List (Str × Addr)) (fp : List Addr) (E' : Value → Shared → Prop), XP0 ((X.blk s H scope (compEnvC scope cl C X.env) fp).wish E') E → PE ((X.blk s H scope (compEnvC scope cl C X.env) fp).wish E') elt te) (hs : ∀ x, foldedSetIterable iter X.env x = pure x)
    (h : tLc wi g tt te (own.map (·.2)) σ H Q)
    (hRR : ∀ D C s' m H', Inv X pins σ H' s' → Q (.ref D) H' → s'.heap.Ns C m → FpOk X pins H' C → compPost (model X.prog X.w) X.A X.xe use Qf (.ref D) C (.ok .next) s') :
    wpAny (model X.prog X.w) X.A (comprehension (.ListComp elt [⟨tg, iter, ifs, 0⟩] scope pos) scope X.env pos' (newList []) false (eval iter X.env) use) Qf X.xe s := by
  have hfree : ∀ y ∈ scope.names, y.2 = .free → ∃ c, X.env.cells.lookup y.1 = some c := fun y hy e => by
    rcases ok.free y hy e with k | k
    · exact I.ok.has _ (.inl k)
    · exact I.ok.has _ (.inr k)
  refine wpAny_comprehension_free (use := use) rfl hs (closure_ok hfree) ok.kind (fun y hy e => by rw [ok.uniq y hy, e])
    (thn (hi pins s σ H _ I h) fun xv s1 hx => thn hx fun itv s2 h2 => ?_)
  obtain ⟨it, fp, tn, J, H2, e, I2, T, st2, f2, q⟩ := h2
  subst e
  refine wpAny_newObj_type (newEnv_comp ?_) (by show 0 ≤ sizeLine; decide)
  generalize hD : s2.heap.objs.size = D
  have hDn : H2 D = none := I2.hok.fresh (Nat.le_of_eq hD)
  obtain ⟨W, ⟨m0, w0⟩, turn⟩ := q D hDn
  -- the new list
  generalize hs3 : ({ s2 with heap := s2.heap.push { cls := .type "list", data := .seq ([] : List Value).toArray } } : Shared) = s3
  have I3 : Inv X pins σ (upd H2 D (.lst [])) s3 := by
    rw [← hs3]
    refine I2.laid (t' := s2.toks) (fun b o e => Heap.get?_push_of_some _ e) (Nat.le_of_eq hD) ⟨Nat.zero_le _, [], 0, .nil, ?_⟩
    rw [← hD]
    exact Heap.get?_push_size _ rfl
  have h3 : s3.heap = s2.heap.push { cls := .type "list", data := .seq ([] : List Value).toArray } := by rw [← hs3]
  have sz : ∀ b ∈ fp, b < s2.heap.objs.size := fun b hb => by
    obtain ⟨o, e, _⟩ := T.obj _ _ st2 b hb
    exact Heap.lt_size e
  have f3 : ∀ b ∈ fp, FpOk X pins (upd H2 D (.lst [])) b ∧ b < s3.heap.objs.size := fun b hb => by
    have hlt := sz b hb
    refine ⟨⟨?_, (f2 b hb).2⟩, by rw [h3, Heap.size_push]; exact Nat.lt_succ_of_lt hlt⟩
    rw [upd_ne (by rw [← hD]; exact Nat.ne_of_lt hlt)]
    exact (f2 b hb).1
  have st3 : tn 0 s3.heap := T.keep _ _ _ st2 fun b _ o e => by rw [h3]; exact Heap.get?_push_of_some _ e
  have I4 := block_start I3 ok hN f3
  have pg := hg s3 (upd H2 D (.lst [])) s3.heap.objs.size (cellsFrom (s3.heap.objs.size + 1) scope.names (cloFrom X.env.cells scope.names [])) fp
  have pt := ht s3 (upd H2 D (.lst [])) s3.heap.objs.size (cellsFrom (s3.heap.objs.size + 1) scope.names (cloFrom X.env.cells scope.names [])) fp
  have pe := he s3 (upd H2 D (.lst [])) s3.heap.objs.size (cellsFrom (s3.heap.objs.size + 1) scope.names (cloFrom X.env.cells scope.names [])) fp
  show codeAny _ _ (.compStart (.ListComp elt [⟨tg, iter, ifs, 0⟩] scope pos) 0 (.ref it) (.ref D) (compEnvC scope (cellsFrom (s3.heap.objs.size + 1) scope.names (cloFrom X.env.cells scope.names [])) s3.heap.objs.size X.env)) (compPost (model X.prog X.w) X.A X.xe use Qf (.ref D) s3.heap.objs.size) { s3 with heap := pushCells (s3.heap.push { cls := .type "dict", data := .dict #[] }) scope.names }
  have nfp : ∀ b ∈ fp, (upd H2 D (.lst [])) b = none := fun b hb => (f3 b hb).1.1
  generalize hce : compEnvC scope (cellsFrom (s3.heap.objs.size + 1) scope.names (cloFrom X.env.cells scope.names [])) s3.heap.objs.size X.env = ce at I4 pg pt pe ⊢
  have cL : ce.locals = s3.heap.objs.size := by subst hce; rfl
  have cF : ce.frame = X.env.frame := by subst hce; rfl
  generalize hH3 : upd H2 D (.lst []) = H3 at I3 I4 pg pt pe w0 nfp f3
  generalize hs4 : ({ s3 with heap := pushCells (s3.heap.push { cls := .type "dict", data := .dict #[] }) scope.names } : Shared) = s4 at I4 ⊢
  have st4 : tn 0 s4.heap := T.keep _ _ _ st3 fun b _ o e => by rw [← hs4]; exact pushCells_keeps _ _ _ _ (Heap.get?_push_of_some _ e)
  have stat : ∀ {σ' : St} {H' : Hp} {s' : Shared}, Inv (X.blk s3 H3 scope ce fp) [] σ' H' s' → (∀ b ∈ fp, H' b = none) → ∀ b ∈ fp, FpOk (X.blk s3 H3 scope ce fp) [] H' b := fun {σ' H' s'} I' hn b hb =>
    ⟨hn b hb, (I'.ok.exf b hb).1, I'.ok.exfs b hb, .inl hb, fun x c e => (I'.ok.exf b hb).2 x c e, fun p hp => absurd (show p ∈ ([] : List (Addr × Obj)) ++ [] from hp) (by simp)⟩
  have peX := pe (fun e s' => notedBy (model X.prog X.w) X.A ce (fun e s'' => compPost (model X.prog X.w) X.A X.xe use Qf (.ref D) s3.heap.objs.size (.error e) s'') e s') (blk_xp xp hst hff I3 cL cF f3)
  have loop : codeAny (model X.prog X.w) X.A (.compLoop (.ListComp elt [⟨tg, iter, ifs, 0⟩] scope pos) 0 (.ref it) (.ref D) ce) (compPost (model X.prog X.w) X.A X.xe use Qf (.ref D) s3.heap.objs.size) s4 := by
    refine compLoop_any (fun n s' => ∃ i H', Inv (X.blk s3 H3 scope ce fp) [] (wipe σ (own.map (·.2))) H' s' ∧ tn i s'.heap ∧ (∀ b ∈ fp, H' b = none) ∧ W i n H') ?_ m0 ⟨0, H3, I4, st4, nfp, w0⟩
    rintro n s5 ⟨i, H5, I5, st5, n5, w5⟩
    rcases turn i n H5 w5 with ⟨stop, qq⟩ | ⟨go, Nx, hNx, step⟩
    · have td := T.done (X.blk s3 H3 scope ce fp) rfl rfl rfl hc i [] s5 _ H5 (fun _ _ => False) I5 (stat I5 n5) st5 stop
      refine thnF td fun r s6 ⟨hr, I6⟩ => ?_
      subst hr
      -- back in the def's context
      have I7 : Inv X pins σ H5 s6 := I3.call' (ch := fp) I6.os I6.base I6.hok I6.bare fun b hb => ⟨(f3 b hb).1.2.2.2.1, (f3 b hb).1.2.1, (f3 b hb).1.2.2.2.2.1, (f3 b hb).1.2.2.2.2.2⟩
      have nC : H5 s3.heap.objs.size = none := by
        have z : H5 ce.locals = none := I6.free
        rw [cL] at z
        exact z
      obtain ⟨m, hn, _⟩ := I6.loc
      have hn : s6.heap.Ns ce.locals m := hn
      rw [cL] at hn
      exact hRR D s3.heap.objs.size s6 m H5 I7 qq hn (I3.fpOk (Nat.le_refl _) nC)
    · have ti := T.item (X.blk s3 H3 scope ce fp) rfl rfl rfl hc i [] s5 _ H5 (fun _ _ => False) I5 (stat I5 n5) st5 go
      refine thnF ti fun r s6 ⟨u, hr, h6⟩ => ?_
      subst hr
      refine thnF h6 fun _ s7 ⟨x, H7, I7, r7, y7, st7, n7⟩ => ?_
      have I7' := I7.pinned (stat I7 n7) (T.obj _ _ st7)
      refine thnF (pg _ s7 _ H7 x u _ I7' r7 (step x H7 y7)) fun _ s8 ⟨σ8, H8, I8, hw8, q8⟩ => ?_
      refine thnF (pt _ s8 σ8 H8 _ I8 q8) fun b s9 ⟨H9, I9, q9⟩ => ?_
      -- the turn's end
      have fin : ∀ {s' : Shared} {H' : Hp}, Inv (X.blk s3 H3 scope ce fp) ([] ++ pinsAt fp s7.heap) σ8 H' s' → Nx H' → ∃ m, m < n ∧ ∃ i H', Inv (X.blk s3 H3 scope ce fp) [] (wipe σ (own.map (·.2))) H' s' ∧ tn i s'.heap ∧ (∀ b ∈ fp, H' b = none) ∧ W i m H' := fun {s' H'} I' nx => by
        obtain ⟨m', hm, w'⟩ := hNx H' nx
        have pin' : ∀ b ∈ fp, ∀ o, s7.heap.get? b = some o → s'.heap.get? b = some o ∧ H' b = none := fun b hb o e =>
          let z := I'.pin (b, o) (List.mem_append_right _ (List.mem_append_right _ (mem_pinsAt hb e)))
          ⟨z.1, z.2.1⟩
        have hl : (wipe σ (own.map (·.2))).length = σ8.length := by rw [← hw8, wipe_length]
        refine ⟨m', hm, i + 1, H', (I'.unpinned (pins := [])).weak hl (fun j v e => ?_), T.keep _ _ _ st7 fun b hb o e => (pin' b hb o e).1, fun b hb => ?_, w'⟩
        · rw [← hw8] at e
          exact (wipe_some e).1
        · obtain ⟨o, e, _⟩ := T.obj _ _ st7 b hb
          exact (pin' b hb o e).2
      cases b with
      | false =>
        simp only [Bool.false_eq_true, if_false] at q9 ⊢
        exact fin I9 q9
      | true =>
        simp only [if_true] at q9 ⊢
        refine wpAny_mono (peX _ s9 σ8 H9 _ (I9.wish _) q9) (fun z s10 ⟨yv, H10, I10w, r10, acc, hD10, hz10, nx⟩ => ?_) fun _ _ y => y
        have I10 := I10w.unwish
        exact app_ok (X := X.blk s3 H3 scope ce fp) I10 hD10 hz10 r10 fun s11 I11 => fin I11 nx
  exact codeAny_compStart_list loop (T.self X.A 0 _ _ _ st4 loop)
/-- as a value -/
theorem pe_lcX {elt tg iter : Expr} {ifs : List Expr} {scope : Scope} {own : List (Str × Nat)} {pos : Pos} {wi : TI} {g : TG} {tt : TT} {te : TE} (hc : X.calm = true) (hN : X.N.Nodup) (hi : PI X tg iter wi) (ok : BlkOk X.N X.env.scope scope own)
    (hg : ∀ (s : Shared) (H : Hp) (C : Addr) (cl : List (Str × Addr)) (fp : List Addr), PG (X.blk s H scope (compEnvC scope cl C X.env) fp) tg g) (ht : ∀ (s : Shared) (H : Hp) (C : Addr) (cl : List (Str × Addr)) (fp : List Addr), PTs (X.blk s H scope (compEnvC scope cl C X.env) fp) ifs tt)
    {E : XK} (xp : XP X E) (hst : X.stack = X.env :: X.outer) (hff : X.env.frame = some X.env.locals) (he : ∀ (s : Shared) (H : Hp) (C : Addr) (cl : List (Str × Addr)) (fp : List Addr) (E' : Value → Shared → Prop), XP0 ((X.blk s H scope (compEnvC scope cl C X.env) fp).wish E') E → PE ((X.blk s H scope (compEnvC scope cl C X.env) fp).wish E') elt te) (hs : ∀ x, foldedSetIterable iter X.env x = pure x := by intro _; rfl) :
    PE X (.ListComp elt [⟨tg, iter, ifs, 0⟩] scope pos) (tLc wi g tt te (own.map (·.2))) := by
  intro pins s σ H Q I h
  rw [eval_ListComp]
  refine lc_coreX hc hN I hi ok hg ht xp hst hff he hs h fun D C s' m H' I' q hn f => ⟨m, hn, fun h'' sb => ?_⟩
  obtain ⟨f0, f1, f2, f3, f4, f5⟩ := f
  exact ⟨.ref D, H', I'.turned (t' := s'.toks) (fun b o hb e => (sb.2 b hb).trans e) f0 f1 f3 f4 f5, rfl, q⟩

end
end L2
end

section
set_option Elab.async false
set_option linter.all false
set_option maxRecDepth 100000
namespace L2
open PySem PySem.Spec PyProof.Rows PySem.W

/-! ### enumerate(text) -/
/-- each sign in a new pair -/
def ItS (x : Str) : It :=
  ⟨fun i _ => i < x.cps.size, fun i H v H' => ∃ T c, v = .ref T ∧ H T = none ∧ x.cps[i]? = some c ∧ H' = upd H T (.tup [.int (i : Nat), .str ⟨#[c]⟩]), fun i _ => x.cps.size ≤ i⟩
theorem drawsS {prog : Program} {w : World} {A : Around} (hh : A.handled = none) (it : Addr) (x : Str) (t : Tok) :
    Draws prog w A it [it] x.cps.size (fun i v => ∃ c u, x.cps[i]? = some c ∧ v = .str ⟨#[c]⟩ u) (fun i h => h.IsStrIter it (strIterType x) x t i) := by
  unfold strIterType
  cases x.cps.all (· < 128) with
  | true => exact Draws.strAscii hh it x t
  | false => exact Draws.strWide hh it x t
theorem turn_enumS {P : Program} {w : World} {K : PySem.W.Frag} {elts : List Expr} {kk : Nat} {tpos : Pos} (x : Str) (t : Tok) (e it : Addr) :
    Turn P w K (.Tuple elts kk tpos) (ItS x) [e, it] e (fun i h => (∃ old, IsEnum h e it ((i : Nat) : Int) old) ∧ h.IsStrIter it (strIterType x) x t i ∧ e ≠ it ∧ i ≤ x.cps.size) where
  mem := by simp
  obj := fun i h st b hb => by
    obtain ⟨⟨old, he⟩, ⟨o, ho, hc, hd⟩, _⟩ := st
    have e' : b = e ∨ b = it := by simpa using hb
    rcases e' with z | z
    · rw [z]; exact ⟨_, he, fun v q => nomatch q⟩
    · rw [z]; exact ⟨o, ho, fun v q => by rw [hd] at q; cases q⟩
  keep := fun i h h' st k => by
    obtain ⟨⟨old, he⟩, ⟨o, ho, r⟩, hne, hi⟩ := st
    exact ⟨⟨old, k e (by simp) _ he⟩, ⟨o, k it (by simp) o ho, r⟩, hne, hi⟩
  item := by
    intro X hP hw hK hc i pins s σ H E I hf st hg
    subst hP hw hK
    obtain ⟨⟨old, he⟩, hit, hne, hle⟩ := st
    have hel : e < s.heap.objs.size := Heap.lt_size he
    have hil : it < s.heap.objs.size := by obtain ⟨_, q, _⟩ := hit; exact Heap.lt_size q
    refine wpAny_pyNext_enum_itemD (drawsS (A := X.A.in1) (I.ok.hd hc) it x t) he hit hg hne (by simpa using hne) fun u h' tk hu ho hit' hT hsz hk => ?_
    obtain ⟨c, tu, hcx, rfl⟩ := hu
    refine ⟨_, rfl, wpAny_letOwnedTupleGo_enum (s := { s with heap := h', toks := tk + 1 }) ho fun h'' he' sb => ?_⟩
    have hT2 : h''.get? s.heap.objs.size = some { cls := .type "tuple", data := .seq #[.int i tk, .str ⟨#[c]⟩ tu] } := (sb.2 _ (Nat.ne_of_gt hel)).trans hT
    have new : ObjOk X.prog X.w (upd H s.heap.objs.size (.tup [.int (i : Nat), .str ⟨#[c]⟩])) h'' s.heap.objs.size (.tup [.int (i : Nat), .str ⟨#[c]⟩]) :=
      ⟨by show 2 ≤ sizeLine; decide, [.int i tk, .str ⟨#[c]⟩ tu], .cons ⟨_, rfl⟩ (.cons ⟨_, rfl⟩ .nil), ⟨_, hT2, rfl, _, rfl⟩⟩
    have I1 : Inv X pins σ (upd H s.heap.objs.size (.tup [.int (i : Nat), .str ⟨#[c]⟩])) { s with heap := h'', toks := tk + 1 } :=
      I.turnedNew (ch := [e, it]) (fun b ob hb q => (sb.2 b (fun z => hb (by simp [z]))).trans (hk b ob (fun z => hb (by simp [z])) (fun z => hb (by simp [z])) q)) hf (Nat.le_refl _) new
    obtain ⟨oi, hoi, ri⟩ := hit'
    refine ⟨.ref s.heap.objs.size, _, I1, rfl, ⟨_, c, rfl, I.hok.fresh (Nat.le_refl _), hcx, rfl⟩, ⟨⟨.str ⟨#[c]⟩ tu, ?_⟩, ⟨oi, (sb.2 it (Ne.symm hne)).trans hoi, ri⟩, hne, hg⟩, fun b hb => ?_⟩
    · have e1 : ((i + 1 : Nat) : Int) = (i : Int) + 1 := by omega
      rw [e1]; exact he'
    · have hb' : b < s.heap.objs.size := by
        have e' : b = e ∨ b = it := by simpa using hb
        rcases e' with z | z
        · rw [z]; exact hel
        · rw [z]; exact hil
      rw [upd_ne (Nat.ne_of_lt hb')]
      exact (hf b hb).1
  done := by
    intro X hP hw hK hc i pins s σ H E I hf st hg
    subst hP hw hK
    obtain ⟨⟨old, he⟩, hit, hne, hle⟩ := st
    have hin : i = x.cps.size := Nat.le_antisymm hle hg
    subst hin
    obtain ⟨f0, f1, f2, f3, f4, f5⟩ := hf it (by simp)
    exact wpAny_pyNext_enum_endD (drawsS (A := X.A.in1) (I.ok.hd hc) it x t) he hit fun h' eb => ⟨rfl, I.turned (t' := s.toks) (fun b o hb q => eb b o hb q) f0 f1 f3 f4 f5⟩
  self := fun A i s Q E st h => let ⟨⟨_, he⟩, _⟩ := st; wpAny_pyIter_enum he h
def iEnumS (ta : TA) : TI := fun σ H R => ta σ H fun vs H1 => ∃ x, vs = [.str x] ∧ R (ItS x) H1
theorem pi_enumS {X : Cx} {e : Expr} {ta : TA} {p pos tpos : Pos} {elts : List Expr} {kk : Nat} (hg : Gl X "enumerate") (hm : X.mg "enumerate" = none) (ha : PA X [e] ta) (hs : starEach [e] X.env = [(false, eval e X.env)] := by rfl) :
    PI X (.Tuple elts kk tpos) (.Call (.Name "enumerate" p) [e] [] pos) (iEnumS ta) := by
  intro pins s σ H R I h
  refine Call_ (ld_blt I hg hm boot_enumerate (PyProof.Rows.callWith_type1 (thn (ha pos pins s σ H _ I h) fun us s1 ⟨vs, H1, I1, r1, q1⟩ => ?_) hs rfl))
  obtain ⟨x, ex, q⟩ := q1
  subst ex
  cases r1 with
  | cons r rr =>
    cases rr
    obtain ⟨t, rfl⟩ := r
    refine call_enumerate_str fun h' he hit hsz hk => wpAny_pyIter_enum he ?_
    have I2 : Inv X pins σ H1 { s1 with heap := h' } := I1.kept (t' := s1.toks) hk
    refine ⟨s1.heap.objs.size + 1, [s1.heap.objs.size + 1, s1.heap.objs.size], _, _, H1, rfl, I2, turn_enumS x t (s1.heap.objs.size + 1) s1.heap.objs.size, ⟨⟨.none, he⟩, hit, Nat.succ_ne_self _, Nat.zero_le _⟩, fun b hb => ?_, q⟩
    have e' : b = s1.heap.objs.size + 1 ∨ b = s1.heap.objs.size := by simpa using hb
    have hle : s1.heap.objs.size ≤ b := by
      rcases e' with z | z
      · rw [z]; exact Nat.le_add_right _ _
      · rw [z]; exact Nat.le_refl _
    exact I1.fpOk hle (I1.hok.fresh hle)
/-- a walk over a text's signs with their places -/
theorem for_enumS {x : Str} {g : TG} {tb : TS} {D : Ends} {σ : St} {H : Hp} (Pv : Nat → St → Hp → Prop) (h0 : Pv 0 σ H)
    (hs : ∀ i c T σ H, x.cps[i]? = some c → Pv i σ H → H T = none → g (.ref T) σ (upd H T (.tup [.int (i : Nat), .str ⟨#[c]⟩])) fun σ2 H2 => tb { D with nx := Pv (i + 1), ct := Pv (i + 1), bk := D.nx } σ2 H2) (hd : ∀ σ H, Pv x.cps.size σ H → D.nx σ H) :
    ∃ W : Nat → Nat → St → Hp → Prop, (∃ m, W 0 m σ H) ∧ ∀ i m σ H, W i m σ H →
      ((ItS x).stop i H ∧ D.nx σ H) ∨ ((ItS x).go i H ∧ ∃ N : St → Hp → Prop, (∀ σ' H', N σ' H' → ∃ m', m' < m ∧ W (i + 1) m' σ' H') ∧ ∀ v H', (ItS x).yld i H v H' → g v σ H' fun σ2 H2 => tb { D with nx := N, ct := N, bk := D.nx } σ2 H2) := by
  refine ⟨fun i m σ H => m = x.cps.size - i ∧ i ≤ x.cps.size ∧ Pv i σ H, ⟨x.cps.size, by simp, Nat.zero_le _, h0⟩, ?_⟩
  rintro i m σ H ⟨rfl, hi, p⟩
  by_cases hlt : i < x.cps.size
  · refine .inr ⟨hlt, Pv (i + 1), fun σ' H' p' => ⟨x.cps.size - (i + 1), by omega, rfl, hlt, p'⟩, fun v H' y => ?_⟩
    obtain ⟨T, c, rfl, hT, hc, rfl⟩ := y
    exact hs i c T σ H hc p hT
  · have e : i = x.cps.size := by omega
    subst e
    exact .inl ⟨Nat.le_refl _, hd σ H p⟩
/-- a walk over a list's items with their places -/
theorem for_enum {K : PySem.W.Frag} {a : Addr} {xs : List V} {g : TG} {tb : TS} {D : Ends} {σ : St} {H : Hp} (Pv : Nat → St → Hp → Prop) (h0 : Pv 0 σ H) (hl : ∀ i σ H, i ≤ xs.length → Pv i σ H → SqL K H a xs)
    (hs : ∀ i x T σ H, xs[i]? = some x → Pv i σ H → H T = none → g (.ref T) σ (upd H T (.tup [.int (i : Nat), x])) fun σ2 H2 => tb { D with nx := Pv (i + 1), ct := Pv (i + 1), bk := D.nx } σ2 H2) (hd : ∀ σ H, Pv xs.length σ H → D.nx σ H) :
    ∃ W : Nat → Nat → St → Hp → Prop, (∃ m, W 0 m σ H) ∧ ∀ i m σ H, W i m σ H →
      ((Ite K a).stop i H ∧ D.nx σ H) ∨ ((Ite K a).go i H ∧ ∃ N : St → Hp → Prop, (∀ σ' H', N σ' H' → ∃ m', m' < m ∧ W (i + 1) m' σ' H') ∧ ∀ v H', (Ite K a).yld i H v H' → g v σ H' fun σ2 H2 => tb { D with nx := N, ct := N, bk := D.nx } σ2 H2) := by
  refine ⟨fun i m σ H => m = xs.length - i ∧ i ≤ xs.length ∧ Pv i σ H, ⟨xs.length, by simp, Nat.zero_le _, h0⟩, ?_⟩
  rintro i m σ H ⟨rfl, hi, p⟩
  have q := hl i σ H hi p
  by_cases hlt : i < xs.length
  · refine .inr ⟨⟨xs, xs[i], q, by simp [hlt]⟩, Pv (i + 1), fun σ' H' p' => ⟨xs.length - (i + 1), by omega, rfl, hlt, p'⟩, fun v H' y => ?_⟩
    obtain ⟨T, x, rfl, hT, rfl, hx⟩ := y
    exact hs i x T σ H (hx xs q) p hT
  · have e : i = xs.length := by omega
    subst e
    exact .inl ⟨⟨xs, q, Nat.le_refl _⟩, hd σ H p⟩

/-! ### max(list, default=d) -/
section
variable {prog : Program} {w : World} {A : Around} {R : Result → Shared → Prop} {I S : Addr} {fp wr : List Addr} {n : Nat} {P : Nat → Value → Prop} {St : Nat → Heap → Prop} {kw : List (Str × Value)} {bt : Nat → Nat → Bool}
/-- behind the first item -/
theorem maxK_go (W : Walks prog w A.in1 I fp wr n P St) (cmp : CmpOf prog w A.in1 .Gt P bt) (nS : S ∉ fp) : ∀ (m j : Nat) (s : Shared) (b : Value) (c : Nat), n = j + 1 + m → St (j + 1) s.heap → P (argBest bt j) b →
    s.heap.get? S = some { cls := .type "list", dict := none, data := .seq #[b, b] c, slots := #[] } →
    (∀ v h' tk, P (argBest bt (n - 1)) v → (∀ a o, a ∉ wr → a ≠ S → s.heap.get? a = some o → h'.get? a = some o) → R (.ok (.ret v)) { s with heap := h', toks := tk }) →
    codeAny (model prog w) A (.builtin "max.loop" ⟨[.ref I, .none, .ref S], kw⟩) R s := by
  have nW : S ∉ wr := fun z => nS (W.sub _ z)
  have nm : (toString "max" ++ toString ".loop" : String) = "max.loop" := by decide
  intro m
  induction m with
  | zero =>
    intro j s b c hn st pb hS k
    refine codeAny_builtin F.entry_max_loop ?_
    rw [Around.under_plainId F.plain_max_loop _]
    show wpAny _ A.in1 (seqItems? (.ref S) >>= _) _ _ s
    refine wpAny_bind (wpAny_seqItems hS rfl ?_)
    show wpAny _ A.in1 (tryCatch (pyNext (.ref I)) _ >>= _) _ _ s
    refine wpAny_bind (wpAny_tryCatch (W.done s _ _ (by rw [hn]; exact st) fun h' tk kp => ?_))
    show wpAny _ A.in1 (updateSeq S (fun _ => #[]) >>= _) _ _ _
    refine wpAny_bind (wpAny_updateSeq (kp S _ nW hS) rfl (wpAny_bind (wpAny_letGo (wpAny_pure (k b _ tk ?_ fun a o h1 h2 e => (Heap.get?_update_other _ _ (Ne.symm h2)).trans (kp a o h1 e))))))
    rw [hn]
    exact pb
  | succ m ih =>
    intro j s b c hn st pb hS k
    refine codeAny_builtin F.entry_max_loop ?_
    rw [Around.under_plainId F.plain_max_loop _]
    show wpAny _ A.in1 (seqItems? (.ref S) >>= _) _ _ s
    refine wpAny_bind (wpAny_seqItems hS rfl ?_)
    show wpAny _ A.in1 (tryCatch (pyNext (.ref I)) _ >>= _) _ _ s
    refine wpAny_bind (wpAny_tryCatch (W.item (j + 1) s _ _ (by omega) st fun v h' tk pv st' kp => ?_))
    have hS' := kp S _ nW hS
    show wpAny _ A.in1 (tryCatch (holding [v, v] (richCompare .Gt v b >>= _)) _ >>= _) _ _ _
    refine wpAny_bind (wpAny_tryCatch (wpAny_holding (wpAny_bind (cmp (j + 1) (argBest bt j) v b _ _ _ pv pb ?_))))
    refine wpAny_bind (wpAny_holding (wpAny_truthy_bool (wpAny_bind (wpAny_letGo (wpAny_pure ?_)))))
    by_cases hb : bt (j + 1) (argBest bt j) = true
    · rw [if_pos hb]
      refine wpAny_bind (wpAny_updateSeq hS' rfl (wpAny_bind (wpAny_letGo ?_)))
      rw [nm]
      refine wpAny_pure ⟨plainId_quiet F.plain_max_loop _, ih (j + 1) _ v _ (by omega) (W.frame _ _ _ st' fun a ha o e => (Heap.get?_update_other _ _ fun z => nS (by rw [z]; exact ha)).trans e) ?_ (Heap.get?_update_self _ hS' rfl)
        fun v' h2 tk2 p2 k2 => k v' h2 tk2 p2 fun a o h1 h2' e => k2 a o h1 h2' ((Heap.get?_update_other _ _ (Ne.symm h2')).trans (kp a o h1 e))⟩
      unfold argBest
      rw [if_pos hb]
      exact pv
    · rw [if_neg hb]
      refine wpAny_bind (wpAny_letGo ?_)
      rw [nm]
      refine wpAny_pure ⟨plainId_quiet F.plain_max_loop _, ih (j + 1) _ b c (by omega) st' ?_ hS' fun v' h2 tk2 p2 k2 => k v' h2 tk2 p2 fun a o h1 h2' e => k2 a o h1 h2' (kp a o h1 e)⟩
      unfold argBest
      rw [if_neg hb]
      exact pb
/-- the whole walk: of no item the default -/
theorem maxK_loop (W : Walks prog w A.in1 I fp wr n P St) (cmp : CmpOf prog w A.in1 .Gt P bt) (nS : S ∉ fp) {s : Shared} {c : Nat} {d : Value} {dn : Str} (st : St 0 s.heap)
    (hS : s.heap.get? S = some { cls := .type "list", dict := none, data := .seq #[] c, slots := #[] })
    (k0 : n = 0 → ∀ h' tk, (∀ a o, a ∉ wr → a ≠ S → s.heap.get? a = some o → h'.get? a = some o) → R (.ok (.ret d)) { s with heap := h', toks := tk })
    (k : 0 < n → ∀ v h' tk, P (argBest bt (n - 1)) v → (∀ a o, a ∉ wr → a ≠ S → s.heap.get? a = some o → h'.get? a = some o) → R (.ok (.ret v)) { s with heap := h', toks := tk }) :
    codeAny (model prog w) A (.builtin "max.loop" ⟨[.ref I, .none, .ref S], [(dn, d)]⟩) R s := by
  have nW : S ∉ wr := fun z => nS (W.sub _ z)
  have nm : (toString "max" ++ toString ".loop" : String) = "max.loop" := by decide
  refine codeAny_builtin F.entry_max_loop ?_
  rw [Around.under_plainId F.plain_max_loop _]
  show wpAny _ A.in1 (seqItems? (.ref S) >>= _) _ _ s
  refine wpAny_bind (wpAny_seqItems hS rfl ?_)
  show wpAny _ A.in1 (tryCatch (pyNext (.ref I)) _ >>= _) _ _ s
  by_cases hn : n = 0
  · refine wpAny_bind (wpAny_tryCatch (W.done s _ _ (by rw [hn]; exact st) fun h' tk kp => ?_))
    exact wpAny_bind (wpAny_rule (wpAny_pure (k0 hn h' tk fun a o h1 _ e => kp a o h1 e)))
  · refine wpAny_bind (wpAny_tryCatch (W.item 0 s _ _ (by omega) st fun v h' tk pv st' kp => ?_))
    have hS' := kp S _ nW hS
    show wpAny _ A.in1 (updateSeq S (fun _ => #[v, v]) >>= _) _ _ _
    refine wpAny_bind (wpAny_updateSeq hS' rfl ?_)
    rw [nm]
    refine wpAny_pure ⟨plainId_quiet F.plain_max_loop _, maxK_go W cmp nS (n - 1) 0 _ v _ (by omega) (W.frame _ _ _ st' fun a ha o e => (Heap.get?_update_other _ _ fun z => nS (by rw [z]; exact ha)).trans e) pv (Heap.get?_update_self _ hS' rfl)
      fun v' h2 tk2 p2 k2 => k (by omega) v' h2 tk2 p2 fun a o h1 h2' e => k2 a o h1 h2' ((Heap.get?_update_other _ _ (Ne.symm h2')).trans (kp a o h1 e))⟩
end
section
variable {prog : Program} {w : World} {A : Around} {E : Value → Shared → Prop} {s : Shared} {l : Addr} {its : List Value} {ns : List Int} {d : Value} {Q : Value → Shared → Prop}
theorem args_maxD (a v : Value) : argsOk "max" ⟨[a], [(Str.ofString "default", v)]⟩ := by unfold argsOk; kernel_rfl
/-- the builtin's own tree, with keywords -/
theorem call_tree_kw {id : String} {b : Builtin} {args : List Value} {kw : List (Str × Value)} (hk : builtinKind id = none) (hp : plainId id = true) (hb : entryFor table id = some b) (ha : argsOk id ⟨args, kw⟩)
    (hc : wpAny (model prog w) A.in1 (b ⟨args, kw⟩) (fun fin s' => match fin with
      | .done f => (match (Except.ok f : Result) with | .ok (.ret v) => Q v s' | .ok _ => False | .error e => E e s')
      | .again c' => c'.quiet = true ∧ codeAny (model prog w) A c' (fun r s' => match r with | .ok (.ret v) => Q v s' | .ok _ => False | .error e => E e s') s') E s) :
    wpAny (model prog w) A (call (.builtin id) args kw) Q E s := by
  refine wpAny_call (codeAny_call_builtin hp hb ?_)
  simp only [checkBuiltinCall, hk]
  cases hsig : Manifest.signature? id with
  | none => exact wpAny_pure hc
  | some sig =>
    simp only [argsOk, hsig] at ha
    have h2 : Bind.checkArgs id sig ⟨args, kw⟩ = pure () := ha
    show wpAny _ A.in1 (Bind.checkArgs id sig ⟨args, kw⟩) _ _ s
    rw [h2]
    exact wpAny_pure hc
theorem maxD_raw (hh : A.handled = none) (hl : s.heap.IsList l its.toArray) (hi : IntsAre its ns) (k0 : ns = [] → ∀ h' tk, (∀ b o, s.heap.get? b = some o → h'.get? b = some o) → Q d { s with heap := h', toks := tk })
    (h : ∀ h' tk M t', (∀ b o, s.heap.get? b = some o → h'.get? b = some o) → M ∈ ns → (∀ a, a ∈ ns → a ≤ M) → Q (.int M t') { s with heap := h', toks := tk }) : wpAny (model prog w) A (call (.builtin "max") [.ref l] [(Str.ofString "default", d)]) Q E s := by
  obtain ⟨xs, e⟩ := hi.allInts.items
  have hn : numsOf (intItems xs).toList = ns := by rw [← e]; exact hi.numsOf
  rw [nums_intItems] at hn
  subst hn
  rw [e] at hl
  have nm : (toString "max" ++ toString ".loop" : String) = "max.loop" := by decide
  refine call_tree_kw F.kind_max F.plain_max F.entry_max (args_maxD _ _) ?_
  show wpAny _ A.in1 (Builtin.Builtins.bindParams "max" ["key", "default"] 0 ⟨[], [(Str.ofString "default", d)]⟩ >>= _) _ _ s
  refine wpAny_bind (wpAny_of_eq (show Builtin.Builtins.bindParams "max" ["key", "default"] 0 ⟨[], [(Str.ofString "default", d)]⟩ = pure [none, some d] from by kernel_rfl) ?_)
  refine wpAny_bind (wpAny_pure ?_)
  refine wpAny_bind (wpAny_mono (iter_intList (A := A.in1) hl fun s2 e2 st hfp hlI => ?_) (fun _ _ z => z) fun _ _ z => z)
  subst e2
  refine wpAny_bind (wpAny_newObj_type ?_)
  rw [nm]
  have W := Walks.list (prog := prog) (w := w) (A := A.in1) hh s.heap.objs.size l hlI (intItems xs)
  have hlt : ∀ b o, s.heap.get? b = some o → b < s.heap.objs.size := fun b o e => Heap.lt_size e
  have zS : (s.heap.push { cls := .type "list_iterator", data := .fields #[.ref l, .int 0 0] }).objs.size = s.heap.objs.size + 1 := Heap.size_push ..
  have kept : ∀ h' : Heap, (∀ a o, a ∉ [s.heap.objs.size] → a ≠ (s.heap.push { cls := .type "list_iterator", data := .fields #[.ref l, .int 0 0] }).objs.size →
      ((s.heap.push { cls := .type "list_iterator", data := .fields #[.ref l, .int 0 0] }).push { cls := .type "list", data := .seq ([] : List Value).toArray }).get? a = some o → h'.get? a = some o) → ∀ b o, s.heap.get? b = some o → h'.get? b = some o := fun h' kp b o e =>
    kp b o (fun z => Nat.ne_of_lt (hlt b o e) (List.mem_singleton.mp z)) (by rw [zS]; exact Nat.ne_of_lt (Nat.lt_succ_of_lt (hlt b o e))) (Heap.get?_push_of_some _ (Heap.get?_push_of_some _ e))
  refine wpAny_pure ⟨plainId_quiet F.plain_max_loop _, maxK_loop W (CmpOf.ints_gt (numAt xs) (fun _ _ => intItems_at)) (fun hm => Nat.lt_irrefl _ (hfp _ hm)) (W.frame _ _ _ st fun b _ o e => Heap.get?_push_of_some _ e) (Heap.get?_push_size _ rfl)
    (fun hz h' tk kp => ?_) (fun hz v h' tk hv kp => ?_)⟩
  · refine k0 ?_ h' tk (kept h' kp)
    have hz' : xs.size = 0 := by simpa [intItems] using hz
    have hx : xs = #[] := Array.eq_empty_of_size_eq_zero hz'
    rw [hx]
    rfl
  · have hv : (intItems xs)[argBest (fun i j => decide (numAt xs i > numAt xs j)) ((intItems xs).size - 1)]? = some v := hv
    have ez : (intItems xs).size = xs.size := by simp [intItems]
    rw [ez] at hv hz
    obtain ⟨t, rfl⟩ := intItems_at hv
    obtain ⟨h1, h2⟩ := argBest_gt (numAt xs) (xs.size - 1)
    refine h h' tk _ t (kept h' kp) ?_ fun a ha => ?_
    · rw [numAt_eq]
      exact PySem.getD_mem (by rw [List.length_map, Array.length_toList]; omega)
    · obtain ⟨j, hj, rfl⟩ := mem_getD ha
      rw [List.length_map, Array.length_toList] at hj
      rw [← numAt_eq]
      exact h2 j (by omega)
end
/-- max(list, default=d) of whole numbers -/
def tMaxD (K : PySem.W.Frag) (ta : TA) (td : TE) : TE := fun σ H Q => ta σ H fun vs H1 => td σ H1 fun z H2 => ∃ (a : Addr) (ns : List Int), vs = [V.ref a] ∧ SqL K H2 a (ns.map V.int) ∧ (ns = [] → Q z H2) ∧ ∀ m, m ∈ ns → (∀ y, y ∈ ns → y ≤ m) → Q (.int m) H2
theorem pe_maxD {X : Cx} {e d : Expr} {ta : TA} {td : TE} {p pos kp : Pos} (hc : X.calm = true) (hg : Gl X "max") (hm : X.mg "max" = none) (ha : PA X [e] ta) (hd : PE X d td) (hs : backTo pos (starEach [e] X.env) = (false, eval e X.env) :: backTo pos (starEach [] X.env) := by rfl)
    (hpl : (backTo pos (starEach [e] X.env)).any (·.1) = false := by rfl) :
    PE X (.Call (.Name "max" p) [e] [⟨some (Str.ofString "default"), d, kp⟩] pos) (tMaxD X.K ta td) := by
  intro pins s σ H Q I h
  refine wpAny_Call_Name_kw (ld_blt I hg hm boot_max ?_)
  refine PyProof.Rows.callWith_kw (thn (ha pos pins s σ H _ I h) fun us s1 ⟨vs, H1, I1, r1, q1⟩ => ?_) hs hpl
  refine kws_cons (thn (hd pins s1 σ H1 _ I1 q1) fun kv s2 ⟨z, H2, I2, r2, q2⟩ => kws_nil ?_)
  obtain ⟨a, ns, ev, hS, k0, k⟩ := q2
  subst ev
  rw [Vals.ref1 r1]
  obtain ⟨its, rv, hl, _⟩ := I2.list hS
  exact maxD_raw (I2.ok.hd hc) hl.isList rv.ints (fun e0 h' tk hk => ⟨z, H2, I2.kept hk, r2, k0 e0⟩) fun h' tk m t' hk h1 h2 => ⟨.int _, H2, I2.kept hk, ⟨_, rfl⟩, k m h1 h2⟩
end L2
end

section
set_option maxRecDepth 4000
namespace L2
open PySem PySem.Spec PyProof.Rows

section
variable {X : Cx}
/-! ### wide numbers -/
def CWide (_i j : Int) : Prop := 0 < j ∧ j < 2 ^ 200
theorem wide_log {j : Int} (h0 : 0 < j) (h : j < 2 ^ 200) : j.natAbs.log2 < 9000 := by
  have h1 : j.natAbs < 2 ^ 200 := by
    have e : ((j.natAbs : Nat) : Int) = j := by omega
    have h2 : ((j.natAbs : Nat) : Int) < ((2 ^ 200 : Nat) : Int) := by rw [e]; simpa using h
    exact Int.ofNat_lt.mp h2
  have h2 : j.natAbs.log2 < 200 := (Nat.log2_lt (by omega)).mpr h1
  omega
theorem op_fdivW : OpR X (binaryOp .FloorDiv) (rI CWide fun i j => .int (i / j)) := opI fun i j _ _ _ _ _ hc q => by
  have h1 : (0 : Int) < j := hc.1
  exact floordiv_int (by omega) (by rw [Int.fdiv_eq_ediv_of_nonneg i (by omega)]; exact q) (.inl (PyProof.noPylong_of_log2 (wide_log hc.1 hc.2)))
theorem iop_fdivW : OpR X (inplaceOp .FloorDiv) (rI CWide fun i j => .int (i / j)) := opI fun i j _ _ _ _ _ hc q => by
  have h1 : (0 : Int) < j := hc.1
  exact ifloordiv_int (by omega) (by rw [Int.fdiv_eq_ediv_of_nonneg i (by omega)]; exact q) (.inl (PyProof.noPylong_of_log2 (wide_log hc.1 hc.2)))
def CShl (i j : Int) : Prop := 0 ≤ j ∧ j ≤ 1000000 ∧ i.natAbs < 2 ^ 200
theorem shl_room {i j : Int} (h : CShl i j) : (Builtin.Int.intBits i : Int) + j ≤ 2 ^ 27 := by
  have h1 := PyProof.Rows.intBits_le h.2.2
  have h2 := h.2.1
  have e : (2 : Int) ^ 27 = 134217728 := by decide
  rw [e]
  have h3 : ((Builtin.Int.intBits i : Nat) : Int) ≤ 200 := by exact_mod_cast h1
  omega
theorem op_shlW : OpR X (binaryOp .LShift) (rI CShl fun i j => .int (i * 2 ^ j.toNat)) := opI fun _ _ _ _ _ _ _ hc q => lshift_int hc.1 (shl_room hc) q
theorem iop_shlW : OpR X (inplaceOp .LShift) (rI CShl fun i j => .int (i * 2 ^ j.toNat)) := opI fun _ _ _ _ _ _ _ hc q => ilshift_int hc.1 (shl_room hc) q
theorem call_divmodW : CallR X (.builtin "divmod") (fun xs H Q => ∃ i j, xs = [.int i, .int j] ∧ CWide i j ∧ ∀ p, H p = none → Q (.ref p) (upd H p (.tup [.int (i / j), .int (i % j)]))) := by
  intro pins s σ H xs us Q I r h
  obtain ⟨i, j, rfl, ⟨h1, h2⟩, q⟩ := h
  obtain ⟨u, w', rfl, ⟨t, rfl⟩, ⟨t', rfl⟩⟩ := vals2 r
  refine divmod_int (by omega) ?_ (.inl (PyProof.noPylong_of_log2 (wide_log h1 h2)))
  rw [Int.fdiv_eq_ediv_of_nonneg i (by omega), Int.fmod_eq_emod_of_nonneg i (by omega)]
  have hn : H s.heap.objs.size = none := I.hok.fresh (Nat.le_refl _)
  refine ⟨.ref s.heap.objs.size, _, ?_, rfl, q _ hn⟩
  refine I.laid (fun b o e => Heap.get?_push_of_some _ e) (Nat.le_refl _) ⟨by simp only [List.length_cons, List.length_nil]; rw [sizeLine_eq]; decide, [.int (i / j) s.toks, .int (i % j) (s.toks + 1)], .cons ⟨_, rfl⟩ (.cons ⟨_, rfl⟩ .nil), ?_⟩
  exact ⟨_, Heap.get?_push_size s.heap rfl, rfl, 0, rfl⟩

/-! ### i.bit_length() -/
def tBitLen (to : TE) : TE := fun σ H Q => to σ H fun x H1 => ∃ i, x = .int i ∧ Q (.int ((Builtin.Int.intBits i : Nat) : Int)) H1
theorem pe_bitlen {o : Expr} {to : TE} {apos pos : Pos} (ho : PE X o to)
    (hbase : attributeBase o "bit_length" X.env (eval o X.env) = eval o X.env := by rfl) (hline : (apos.endLine == pos.line) = true := by rfl) : PE X (.Call (.Attribute o "bit_length" apos) [] [] pos) (tBitLen to) := by
  intro pins s σ H Q I h
  refine PySem.Call_method0 hbase hline (thn (ho pins s σ H _ I h) fun v s1 ⟨x, H1, I1, r1, q1⟩ => ?_)
  obtain ⟨i, rfl, q1⟩ := q1
  obtain ⟨t, rfl⟩ := _root_.id r1
  exact ⟨"int", _, F.plainAttrs_int, F.slot_int_bit_length, F.type_int_bit_length, typeIs_int _ _ _, (fun _ e => nomatch e), Calls.callWith_builtin rfl (PySem.evalArgs_none (call_int_bit_length ⟨.int _, H1, I1.tok _, ⟨_, rfl⟩, q1⟩))⟩

/-! ### a def that is found by its key, or kept in a local -/
def tCallE (D : Addr → Sp → Prop) (E : XK) (tf : TE) (t : TA) : TE := fun σ H Q => tf σ H fun x H1 => ∃ f sp, x = .ref f ∧ D f sp ∧ t σ H1 fun vs H2 => sp vs H2 Q E
def Found (X : Cx) (E : XK) (D : Addr → Sp → Prop) : Prop := ∀ f sp, D f sp → PySem.W.keepIn X.K (.ref f) = true ∧ ∃ CX fd ps k, FnOk X.prog X.w X.K X.mg X.base CX k f fd ps sp ∧ Room k X.A ∧ Binds X.K fd ps [] ∧ Passes CX X E
theorem pe_callE {D : Addr → Sp → Prop} {E : XK} {fe e : Expr} {es : List Expr} {tf : TE} {t : TA} {pos : Pos} (hD : Found X E D) (hf : PE X fe tf) (ha : PA X (e :: es) t)
    (hc : eval (.Call fe (e :: es) [] pos) X.env = (do callWith pos (← eval fe X.env) [] (backTo pos (starEach (e :: es) X.env)) (backToKw pos (keywordEach [] X.env))) := by rfl)
    (he : starEach (e :: es) X.env = (false, eval e X.env) :: starEach es X.env := by rfl) (hpl : (backTo pos (starEach es X.env)).any (·.1) = false := by rfl) : PE X (.Call fe (e :: es) [] pos) (tCallE D E tf t) := by
  intro pins s σ H Q I h
  rw [hc]
  refine wpAny_bind (thn (hf pins s σ H _ I h) fun v s1 ⟨x, H1, I1, r1, q1⟩ => ?_)
  obtain ⟨f, sp, rfl, d, q1⟩ := q1
  obtain rfl : v = Value.ref f := r1
  obtain ⟨hk, CX, fd, ps, k, F, hr, hb, hx⟩ := hD f sp d
  refine PySem.W.callWith_K (h₀ := X.base) I.ok.mod.kin hk (thn (ha pos pins s1 σ H1 _ I1 q1) fun us s2 ⟨vs, H2, I2, r, q⟩ => ⟨I2.kIn, ?_⟩) he hpl
  exact run_fn (dvs := []) (ds := []) F hr hb .nil hx I2 r (by rw [List.append_nil]; exact q)
end

/-! ### a dict of the module, which is only read -/
def Ents (w : World) : List DictEntry → List (Key × V) → Prop
  | [], [] => True
  | e :: es, kv :: kvs => RelV (kV kv.1) e.key ∧ e.hash = keyH w kv.1 ∧ RelV kv.2 e.val ∧ Ents w es kvs
  | _, _ => False
structure ModD (w : World) (K : PySem.W.Frag) (d : Addr) (kvs : List (Key × V)) : Prop where
  has : ∃ (o : Obj) (es : Array DictEntry) (ep : Nat), K.lookup d = some o ∧ o.ExactDict ∧ o.data = .dict es ep ∧ Ents w es.toList kvs
  sys : (d == sysModules) = false
  nd : (kvs.map (·.1)).Nodup
theorem Ents.to {P : Program} {w : World} : ∀ {es : List DictEntry} {kvs : List (Key × V)}, Ents w es kvs → ∃ vs, KV kvs vs ∧ Pairs (mixKind P w) es vs ∧ vs.map (·.1) = kvs.map (·.1) ∧ ∀ e ∈ es, ∃ k, (mixKind P w).is k e.key = true ∧ e.hash = (mixKind P w).hash k
  | [], [], _ => ⟨[], .nil, .nil, rfl, fun e he => nomatch he⟩
  | e :: es, kv :: kvs, h => by
    obtain ⟨h1, h2, h3, h4⟩ := h
    obtain ⟨vs, a, b, c, d⟩ := Ents.to (P := P) h4
    refine ⟨(kv.1, e.val) :: vs, .cons ⟨rfl, h3⟩ a, .cons (kV_is h1) rfl b, by rw [List.map_cons, List.map_cons, c], fun e' he => ?_⟩
    rcases List.mem_cons.mp he with z | z
    · subst z; exact ⟨kv.1, kV_is h1, h2⟩
    · exact d e' z
  | [], _ :: _, h => False.elim h
  | _ :: _, [], h => False.elim h
theorem ModD.dictOf {P : Program} {w : World} {K : PySem.W.Frag} {d : Addr} {kvs : List (Key × V)} {h : Heap} (m : ModD w K d kvs) (X : K.In h) : ∃ vs, KV kvs vs ∧ h.DictOf (mixKind P w) d vs := by
  obtain ⟨o, es, ep, h1, h2, h3, h4⟩ := m.has
  obtain ⟨vs, a, b, c, e⟩ := Ents.to (P := P) h4
  exact ⟨vs, a, o, es, ep, X _ _ h1, h2, h3, fun x hx => e x (by simpa using hx), b, by rw [c]; exact m.nd⟩
def tMGet (d : Addr) (kvs : List (Key × V)) (td ty : TE) : TE := fun σ H Q => td σ H fun x H1 => x = .ref d ∧ ty σ H1 fun y H2 => ∃ k v, y = kV k ∧ valV kvs k = some v ∧ Q v H2
def tMIn (d : Addr) (kvs : List (Key × V)) (td ty : TE) (neg : Bool) : TE := fun σ H Q => ty σ H fun y H1 => td σ H1 fun x H2 => ∃ k, x = .ref d ∧ y = kV k ∧ Q (.bl (if neg then !(valV kvs k).isSome else (valV kvs k).isSome)) H2
def tMGet1 (d : Addr) (kvs : List (Key × V)) (td ty : TE) : TE := fun σ H Q => td σ H fun x H1 => x = .ref d ∧ ty σ H1 fun y H2 => ∃ k, y = kV k ∧ Q ((valV kvs k).getD .non) H2
def tMGet2 (d : Addr) (kvs : List (Key × V)) (td ty tx : TE) : TE := fun σ H Q => td σ H fun x H1 => x = .ref d ∧ ty σ H1 fun y H2 => tx σ H2 fun z H3 => ∃ k, y = kV k ∧ Q ((valV kvs k).getD z) H3
section
variable {X : Cx} {o i e f : Expr} {pos apos cpos : Pos} {td ty tx : TE} {d : Addr} {kvs : List (Key × V)}
theorem pe_mget (m : ModD X.w X.K d kvs) (ho : PE X o td) (hi : PE X i ty) (hs : NoSl i) : PE X (.Subscript o i pos) (tMGet d kvs td ty) := by
  intro pins s σ H Q I h
  refine subD_of PySem.F.slot_dict_getitem.lookup hs (thn (ho pins s σ H _ I h) fun u s1 ⟨x, H1, I1, rx, ex, q1⟩ => thn (hi pins s1 σ H1 _ I1 q1) fun iv s2 ⟨y, H2, I2, ry, k, v, ey, g, q2⟩ => ?_)
  subst ex
  obtain rfl : u = Value.ref d := rx
  subst ey
  obtain ⟨vs, rel, dd⟩ := m.dictOf (P := X.prog) I2.kIn
  obtain ⟨w', hw, rw'⟩ := RelO.some_of (v := v) (o := valueAt vs k) (by rw [← g]; exact rel.val k)
  exact ⟨dd.typeIs, wpAny_getItem_of (kV_is ry) dd.mapOf hw ⟨v, H2, I2.tok _, rw', q2⟩⟩
theorem pc_min (m : ModD X.w X.K d kvs) (hi : PE X i ty) (ho : PE X o td) : PC X .In i o (tMIn d kvs td ty false) := by
  intro pins s σ H Q I h
  refine thn (hi pins s σ H _ I h) fun iv s1 ⟨y, H1, I1, ry, q1⟩ => thn (ho pins s1 σ H1 _ I1 q1) fun u s2 ⟨x, H2, I2, rx, k, ex, ey, q2⟩ => ?_
  subst ex
  obtain rfl : u = Value.ref d := rx
  subst ey
  obtain ⟨vs, rel, dd⟩ := m.dictOf (P := X.prog) I2.kIn
  refine wpAny_in_of (kV_is ry) m.sys dd.mapOf ?_
  rw [← (rel.val k).isSome_eq]
  exact ⟨.bl _, H2, I2.tok _, rfl, q2⟩
theorem pc_mnotin (m : ModD X.w X.K d kvs) (hi : PE X i ty) (ho : PE X o td) : PC X .NotIn i o (tMIn d kvs td ty true) := by
  intro pins s σ H Q I h
  refine thn (hi pins s σ H _ I h) fun iv s1 ⟨y, H1, I1, ry, q1⟩ => thn (ho pins s1 σ H1 _ I1 q1) fun u s2 ⟨x, H2, I2, rx, k, ex, ey, q2⟩ => ?_
  subst ex
  obtain rfl : u = Value.ref d := rx
  subst ey
  obtain ⟨vs, rel, dd⟩ := m.dictOf (P := X.prog) I2.kIn
  refine wpAny_notIn_of (kV_is ry) m.sys dd.mapOf ?_
  rw [← (rel.val k).isSome_eq]
  exact ⟨.bl _, H2, I2.tok _, rfl, q2⟩
theorem md_noDict {h : Heap} {vs : List (Key × Value)} (dd : h.DictOf (mixKind X.prog X.w) d vs) : ∀ b, Value.ref d = .ref b → ∃ ob, h.get? b = some ob ∧ ob.dict = none := fun b q => by
  cases q
  obtain ⟨ob, _, _, h1, h2, _⟩ := dd
  exact ⟨ob, h1, h2.2.1⟩
theorem pe_mget1 (m : ModD X.w X.K d kvs) (ho : PE X o td) (he : PE X e ty) (t : M1 X o "get" apos e cpos) : PE X (.Call (.Attribute o "get" apos) [e] [] cpos) (tMGet1 d kvs td ty) := by
  intro pins s σ H Q I h
  refine wpAny_Call_method t.base t.few t.line PySem.F.plainAttrs_dict PySem.F.slot_dict_get PySem.F.type_dict_get (thn (ho pins s σ H _ I h) fun u s1 ⟨x, H1, I1, rx, ex, q1⟩ => ?_)
  subst ex
  obtain rfl : u = Value.ref d := rx
  obtain ⟨vs, rel, dd⟩ := m.dictOf (P := X.prog) I1.kIn
  refine ⟨dd.typeIs, md_noDict dd, ?_⟩
  rw [t.trees]
  refine Calls.callWith_builtin rfl (Calls.evalArgs_plain (Calls.spliced_cons (thn (he pins s1 σ H1 _ I1 q1) fun iv s2 ⟨y, H2, I2, ry, k, ey, q2⟩ => Calls.spliced_nil ?_)))
  subst ey
  obtain ⟨vs, rel, dd⟩ := m.dictOf (P := X.prog) I2.kIn
  refine call_meetsIn PySem.F.slot_dict_get dd.typeIs PySem.F.entry_dict_get (PySem.F.args_dict_get_2 _ _) (meets_dict_get (mixKind X.prog X.w) d (kV_is ry) m.sys) ⟨_, dd.mapOf, ⟨(valV kvs k).getD .non, H2, I2.tok _, (rel.val k).getD rfl, q2⟩⟩
theorem pe_mget2 (m : ModD X.w X.K d kvs) (ho : PE X o td) (he : PE X e ty) (hf : PE X f tx) (t : M2 X o "get" apos e f cpos) : PE X (.Call (.Attribute o "get" apos) [e, f] [] cpos) (tMGet2 d kvs td ty tx) := by
  intro pins s σ H Q I h
  refine wpAny_Call_method t.base t.few t.line PySem.F.plainAttrs_dict PySem.F.slot_dict_get PySem.F.type_dict_get (thn (ho pins s σ H _ I h) fun u s1 ⟨x, H1, I1, rx, ex, q1⟩ => ?_)
  subst ex
  obtain rfl : u = Value.ref d := rx
  obtain ⟨vs, rel, dd⟩ := m.dictOf (P := X.prog) I1.kIn
  refine ⟨dd.typeIs, md_noDict dd, ?_⟩
  rw [t.trees]
  refine Calls.callWith_builtin rfl (Calls.evalArgs_plain (Calls.spliced_cons (thn (he pins s1 σ H1 _ I1 q1) fun iv s2 ⟨y, H2, I2, ry, q2⟩ =>
    Calls.spliced_cons (thn (hf pins s2 σ H2 _ I2 q2) fun fv s3 ⟨z, H3, I3, rz, k, ey, q3⟩ => Calls.spliced_nil ?_))))
  subst ey
  obtain ⟨vs, rel, dd⟩ := m.dictOf (P := X.prog) I3.kIn
  refine call_meetsIn PySem.F.slot_dict_get dd.typeIs PySem.F.entry_dict_get (PySem.F.args_dict_get_3 _ _ _) (meets_dict_get_default (mixKind X.prog X.w) d (kV_is ry) m.sys _) ⟨_, dd.mapOf, ⟨_, H3, I3.tok _, (rel.val k).getD rz, q3⟩⟩
end
end L2
end

section
/-! The mathematics of a program in letters: what the def's loops reckon is what the specification says. -/
namespace My
open Rc38

/-! ### the words of a text -/
def isSep (c : Nat) : Bool := decide (c = 32 ∨ c = 10)
def spStep (p : List (List Nat) × List Nat) (c : Nat) : List (List Nat) × List Nat :=
  if c = 32 ∨ c = 10 then (if p.2 = [] then p.1 else p.1 ++ [p.2], []) else (p.1, p.2 ++ [c])
def spEnd (p : List (List Nat) × List Nat) : List (List Nat) := if p.2 = [] then p.1 else p.1 ++ [p.2]
def fr (t : List Nat) : List (List Nat) := t.foldr (fun c l => if c = 32 ∨ c = 10 then [] :: l else match l with
  | [] => [[c]]
  | w :: r => (c :: w) :: r) [[]]
theorem words_fr (t : List Nat) : words t = (fr t).filter fun w => !w.isEmpty := rfl
theorem fr_sep {c : Nat} (h : c = 32 ∨ c = 10) (t : List Nat) : fr (c :: t) = [] :: fr t := by
  show (if c = 32 ∨ c = 10 then [] :: fr t else _) = _
  rw [if_pos h]
theorem fr_ne : ∀ t : List Nat, fr t ≠ []
  | [] => by simp [fr]
  | c :: t => by
    by_cases h : c = 32 ∨ c = 10
    · rw [fr_sep h]; simp
    · show (if c = 32 ∨ c = 10 then [] :: fr t else match fr t with | [] => [[c]] | w :: r => (c :: w) :: r) ≠ []
      rw [if_neg h]
      cases fr t <;> simp
theorem fr_no {c : Nat} (h : ¬ (c = 32 ∨ c = 10)) (t : List Nat) {w : List Nat} {r : List (List Nat)} (e : fr t = w :: r) : fr (c :: t) = (c :: w) :: r := by
  show (if c = 32 ∨ c = 10 then [] :: fr t else match fr t with | [] => [[c]] | w :: r => (c :: w) :: r) = _
  rw [if_neg h, e]
theorem sp_run : ∀ (t : List Nat) (os : List (List Nat)) (cs w : List Nat) (r : List (List Nat)), fr t = w :: r →
    spEnd (t.foldl spStep (os, cs)) = os ++ ((cs ++ w) :: r).filter fun w => !w.isEmpty
  | [], os, cs, w, r, e => by
    have e : ([[]] : List (List Nat)) = w :: r := e
    cases e
    show (if cs = [] then os else os ++ [cs]) = _
    cases cs <;> simp
  | c :: t, os, cs, w, r, e => by
    cases e' : fr t with
    | nil => exact absurd e' (fr_ne t)
    | cons w' r' =>
      by_cases h : c = 32 ∨ c = 10
      · rw [fr_sep h] at e
        injection e with e1 e2
        subst e1
        subst e2
        show spEnd (t.foldl spStep (if c = 32 ∨ c = 10 then (if cs = [] then os else os ++ [cs], []) else (os, cs ++ [c]))) = _
        rw [if_pos h, sp_run t _ [] w' r' e', e']
        cases cs with
        | nil => simp
        | cons a b => simp
      · rw [fr_no h t e'] at e
        injection e with e1 e2
        subst e1
        subst e2
        show spEnd (t.foldl spStep (if c = 32 ∨ c = 10 then (if cs = [] then os else os ++ [cs], []) else (os, cs ++ [c]))) = _
        rw [if_neg h, sp_run t os (cs ++ [c]) w' r' e']
        simp
theorem words_run (t : List Nat) : words t = spEnd (t.foldl spStep ([], [])) := by
  cases e : fr t with
  | nil => exact absurd e (fr_ne t)
  | cons w r => rw [sp_run t [] [] w r e, words_fr, e]; simp

/-! ### an order in letters -/
def isDig (x : Nat) : Bool := decide (48 ≤ x ∧ x ≤ 57)
def value (d : List Nat) : Nat := d.foldl (fun v x => 10 * v + (x - 48)) 0
def signOf (c : Nat) : Option Nat := SIGNS.findIdx? fun x => x.toNat == c
/-- what the def does, from the left -/
def ow (codes : List Nat) : Option Nat := match codes with
  | [] => none
  | c :: r => if r = [] then none else match signOf c with
    | none => none
    | some k => if 4 < r.dropLast.length then none else if r.dropLast.all isDig = true then (if 2048 ≤ value r.dropLast then none else
      if r.getLast? = some 70 then some (k * 4096 + 2 * value r.dropLast) else if r.getLast? = some 68 then some (k * 4096 + 2 * value r.dropLast + 1) else none) else none
theorem takeWhile_snoc {x : Nat} (hx : isDig x = false) : ∀ d : List Nat, d.all isDig = true → (d ++ [x]).takeWhile isDig = d
  | [], _ => by simp [hx]
  | a :: d, h => by
    simp only [List.all_cons, Bool.and_eq_true] at h
    simp [h.1, takeWhile_snoc hx d h.2]
theorem takeWhile_all : ∀ r : List Nat, (r.takeWhile isDig).all isDig = true
  | [] => rfl
  | a :: r => by
    by_cases h : isDig a = true
    · simp [List.takeWhile, h, takeWhile_all r]
    · simp [List.takeWhile, h]
theorem drop_takeWhile : ∀ r : List Nat, r.takeWhile isDig ++ r.drop (r.takeWhile isDig).length = r
  | [] => rfl
  | a :: r => by
    by_cases h : isDig a = true
    · simp [List.takeWhile, h, drop_takeWhile r]
    · simp [List.takeWhile, h]
theorem ow_eq (codes : List Nat) : ow codes = orderOf codes := by
  cases codes with
  | nil => rfl
  | cons c r =>
    have eo : orderOf (c :: r) = match signOf c with
      | none => none
      | some k => if (r.takeWhile isDig).length ≤ 4 ∧ value (r.takeWhile isDig) < 2048 then (if r.drop (r.takeWhile isDig).length = [70] then some (k * 4096 + value (r.takeWhile isDig) * 2) else if r.drop (r.takeWhile isDig).length = [68] then some (k * 4096 + value (r.takeWhile isDig) * 2 + 1) else none) else none := rfl
    have em : ow (c :: r) = if r = [] then none else match signOf c with
      | none => none
      | some k => if 4 < r.dropLast.length then none else if r.dropLast.all isDig = true then (if 2048 ≤ value r.dropLast then none else
        if r.getLast? = some 70 then some (k * 4096 + 2 * value r.dropLast) else if r.getLast? = some 68 then some (k * 4096 + 2 * value r.dropLast + 1) else none) else none := rfl
    rw [eo, em]
    cases signOf c with
    | none => split <;> rfl
    | some k =>
      dsimp only
      by_cases hr : r = []
      · subst hr
        simp
      · rw [if_neg hr]
        -- the last sign
        have hsp : r = r.dropLast ++ [r.getLast hr] := (List.dropLast_concat_getLast hr).symm
        have hl : r.getLast? = some (r.getLast hr) := List.getLast?_eq_some_getLast hr
        generalize r.getLast hr = x at hsp hl
        generalize r.dropLast = d at hsp
        rw [hl]
        -- whatever ends with one sign behind its digits
        have back : ∀ y, isDig y = false → r.drop (r.takeWhile isDig).length = [y] → d.all isDig = true ∧ x = y ∧ r.takeWhile isDig = d := by
          intro y hy e
          have e2 := drop_takeWhile r
          rw [e] at e2
          have e3 : d ++ [x] = r.takeWhile isDig ++ [y] := by rw [← hsp, e2]
          obtain ⟨e4, e5⟩ := List.append_inj' e3 rfl
          cases e5
          rw [e4]
          exact ⟨takeWhile_all r, rfl, rfl⟩
        have forth : d.all isDig = true → isDig x = false → r.takeWhile isDig = d ∧ r.drop (r.takeWhile isDig).length = [x] := by
          intro h1 h2
          have e1 : r.takeWhile isDig = d := by rw [hsp]; exact takeWhile_snoc h2 d h1
          refine ⟨e1, ?_⟩
          rw [e1, hsp]
          simp
        by_cases h70 : x = 70
        · subst h70
          by_cases hd : d.all isDig = true
          · obtain ⟨e1, e2⟩ := forth hd rfl
            rw [e2, e1]
            simp only [hd, if_true]
            by_cases h4 : 4 < d.length
            · rw [if_pos h4, if_neg (by omega)]
            · rw [if_neg h4]
              by_cases hv : 2048 ≤ value d
              · rw [if_pos hv, if_neg (by omega)]
              · have hh : d.length ≤ 4 ∧ value d < 2048 := ⟨by omega, by omega⟩
                rw [if_neg hv]
                simp [hh, Nat.mul_comm]
          · have hn : ∀ y, isDig y = false → ¬ r.drop (r.takeWhile isDig).length = [y] := fun y hy e => hd (back y hy e).1
            rw [if_neg (hn 70 rfl), if_neg (hn 68 rfl)]
            simp [hd]
        · by_cases h68 : x = 68
          · subst h68
            by_cases hd : d.all isDig = true
            · obtain ⟨e1, e2⟩ := forth hd rfl
              rw [e2, e1]
              simp only [hd, if_true]
              by_cases h4 : 4 < d.length
              · rw [if_pos h4, if_neg (by omega)]
              · rw [if_neg h4]
                by_cases hv : 2048 ≤ value d
                · rw [if_pos hv, if_neg (by omega)]
                · have hh : d.length ≤ 4 ∧ value d < 2048 := ⟨by omega, by omega⟩
                  rw [if_neg hv]
                  simp [hh, Nat.mul_comm]
            · have hn : ∀ y, isDig y = false → ¬ r.drop (r.takeWhile isDig).length = [y] := fun y hy e => hd (back y hy e).1
              rw [if_neg (hn 70 rfl), if_neg (hn 68 rfl)]
              simp [hd]
          · have n1 : ¬ r.drop (r.takeWhile isDig).length = [70] := fun e => h70 (back 70 rfl e).2.1
            have n2 : ¬ r.drop (r.takeWhile isDig).length = [68] := fun e => h68 (back 68 rfl e).2.1
            rw [if_neg n1, if_neg n2]
            simp [h70, h68]
/-! ### all of them -/
theorem allSome_nil : allSome [] = some [] := rfl
theorem allSome_snoc (l : List (Option Nat)) (x : Option Nat) : allSome (l ++ [x]) = match allSome l, x with
    | some r, some y => some (r ++ [y])
    | _, _ => none := by
  induction l with
  | nil => cases x <;> rfl
  | cons a l ih =>
    cases a with
    | none => rfl
    | some a =>
      show (allSome (l ++ [x])).map _ = _
      rw [ih]
      show _ = match (allSome l).map (fun r => a :: r), x with | some r, some y => some (r ++ [y]) | _, _ => none
      cases allSome l with
      | none => rfl
      | some r => cases x <;> rfl
theorem allSome_append (l m : List (Option Nat)) : allSome (l ++ m) = match allSome l, allSome m with
    | some r, some t => some (r ++ t)
    | _, _ => none := by
  induction l with
  | nil => show allSome m = _; cases allSome m <;> rfl
  | cons a l ih =>
    cases a with
    | none => rfl
    | some a =>
      show (allSome (l ++ m)).map _ = match (allSome l).map (fun r => a :: r), allSome m with | some r, some t => some (r ++ t) | _, _ => none
      rw [ih]
      cases allSome l with
      | none => rfl
      | some r => cases allSome m <;> rfl
theorem allSome_length : ∀ {l : List (Option Nat)} {r : List Nat}, allSome l = some r → r.length = l.length
  | [], r, h => by cases h; rfl
  | none :: _, r, h => by cases h
  | some a :: l, r, h => by
    have h : (allSome l).map (fun q => a :: q) = some r := h
    cases e : allSome l with
    | none => rw [e] at h; cases h
    | some q =>
      rw [e] at h
      cases h
      show q.length + 1 = l.length + 1
      rw [allSome_length e]
/-- up to a place all, then at the place none -/
theorem allSome_none {l : List (Option Nat)} {i : Nat} (h : l[i]? = some none) : allSome l = none := by
  induction l generalizing i with
  | nil => simp at h
  | cons a l ih =>
    cases a with
    | none => rfl
    | some a =>
      cases i with
      | zero => simp at h
      | succ i =>
        show (allSome l).map _ = none
        rw [ih (i := i) (by simpa using h)]
        rfl
theorem sign_lt {c k : Nat} (h : signOf c = some k) : k < 32 := by
  have := List.findIdx?_eq_some_iff_getElem.mp h
  obtain ⟨h1, _⟩ := this
  exact h1
theorem value_lt (d : List Nat) (hd : d.all isDig = true) : value d < 10 ^ d.length := by
  have key : ∀ (d : List Nat) (v : Nat), d.all isDig = true → d.foldl (fun v x => 10 * v + (x - 48)) v < (v + 1) * 10 ^ d.length := by
    intro d
    induction d with
    | nil => intro v _; simp
    | cons a d ih =>
      intro v h
      simp only [List.all_cons, Bool.and_eq_true] at h
      have ha : 48 ≤ a ∧ a ≤ 57 := by simpa [isDig] using h.1
      have := ih (10 * v + (a - 48)) h.2
      refine Nat.lt_of_lt_of_le this ?_
      rw [List.length_cons, Nat.pow_succ]
      have e : (v + 1) * (10 ^ d.length * 10) = ((v + 1) * 10) * 10 ^ d.length := by rw [Nat.mul_comm (10 ^ d.length) 10, Nat.mul_assoc]
      rw [e]
      exact Nat.mul_le_mul_right _ (by omega)
  have := key d 0 hd
  simpa [value] using this
theorem order_lt {codes : List Nat} {k : Nat} (h : orderOf codes = some k) : k < 131072 := by
  rw [← ow_eq] at h
  cases codes with
  | nil => cases h
  | cons c r =>
    have em : ow (c :: r) = if r = [] then none else match signOf c with
      | none => none
      | some k => if 4 < r.dropLast.length then none else if r.dropLast.all isDig = true then (if 2048 ≤ value r.dropLast then none else
        if r.getLast? = some 70 then some (k * 4096 + 2 * value r.dropLast) else if r.getLast? = some 68 then some (k * 4096 + 2 * value r.dropLast + 1) else none) else none := rfl
    rw [em] at h
    by_cases hr : r = []
    · rw [if_pos hr] at h; cases h
    · rw [if_neg hr] at h
      cases e : signOf c with
      | none => rw [e] at h; cases h
      | some j =>
        rw [e] at h
        have hj := sign_lt e
        dsimp only at h
        split at h
        · cases h
        · split at h
          · split at h
            · cases h
            · split at h
              · cases h; omega
              · split at h
                · cases h; omega
                · cases h
          · cases h

/-! ### the order's cases, as the def meets them -/
def okDig (ds : List Nat) : Prop := ds.length ≤ 4 ∧ ds.all isDig = true ∧ value ds < 2048
theorem ow_cons {c k : Nat} {r : List Nat} (hr : r ≠ []) (hs : signOf c = some k) : orderOf (c :: r) = if 4 < r.dropLast.length then none else if r.dropLast.all isDig = true then (if 2048 ≤ value r.dropLast then none else
        if r.getLast? = some 70 then some (k * 4096 + 2 * value r.dropLast) else if r.getLast? = some 68 then some (k * 4096 + 2 * value r.dropLast + 1) else none) else none := by
  rw [← ow_eq]
  show (if r = [] then none else match signOf c with
    | none => none
    | some k => _) = _
  rw [if_neg hr, hs]
theorem ow_short {codes : List Nat} (h : codes.length < 2) : orderOf codes = none := by
  rw [← ow_eq]
  match codes, h with
  | [], _ => rfl
  | [_], _ => rfl
theorem ow_nosign {c : Nat} {r : List Nat} (hs : signOf c = none) : orderOf (c :: r) = none := by
  rw [← ow_eq]
  show (if r = [] then none else match signOf c with
    | none => none
    | some k => _) = _
  rw [hs]
  split <;> rfl
theorem ow_nonum {c k : Nat} {r : List Nat} (hr : r ≠ []) (hs : signOf c = some k) (h : ¬ okDig r.dropLast) : orderOf (c :: r) = none := by
  rw [ow_cons hr hs]
  by_cases h1 : 4 < r.dropLast.length
  · rw [if_pos h1]
  · rw [if_neg h1]
    by_cases h2 : r.dropLast.all isDig = true
    · rw [if_pos h2]
      by_cases h3 : 2048 ≤ value r.dropLast
      · rw [if_pos h3]
      · exact absurd ⟨by omega, h2, by omega⟩ h
    · rw [if_neg h2]
theorem ow_end {c k : Nat} {r : List Nat} (hr : r ≠ []) (hs : signOf c = some k) (h : okDig r.dropLast) {x : Nat} (hx : r.getLast? = some x) :
    orderOf (c :: r) = if x = 70 then some (k * 4096 + 2 * value r.dropLast) else if x = 68 then some (k * 4096 + 2 * value r.dropLast + 1) else none := by
  obtain ⟨h1, h2, h3⟩ := h
  rw [ow_cons hr hs, if_neg (by omega), if_pos h2, if_neg (by omega), hx]
  simp only [Option.some.injEq]
/-! ### the split's state -/
theorem spStep_sep {p : List (List Nat) × List Nat} {c : Nat} (h : c = 32 ∨ c = 10) : spStep p c = (if p.2 = [] then p.1 else p.1 ++ [p.2], []) := if_pos h
theorem spStep_no {p : List (List Nat) × List Nat} {c : Nat} (h : ¬ (c = 32 ∨ c = 10)) : spStep p c = (p.1, p.2 ++ [c]) := if_neg h
theorem spLen : ∀ (t : List Nat) (p : List (List Nat) × List Nat), (t.foldl spStep p).1.length + (t.foldl spStep p).2.length ≤ p.1.length + p.2.length + t.length
  | [], p => by simp
  | c :: t, p => by
    have ih := spLen t (spStep p c)
    have h1 : (spStep p c).1.length + (spStep p c).2.length ≤ p.1.length + p.2.length + 1 := by
      by_cases h : c = 32 ∨ c = 10
      · rw [spStep_sep h]
        split <;> simp <;> omega
      · rw [spStep_no h]
        simp
        omega
    simp only [List.foldl_cons, List.length_cons]
    omega
theorem spTake {t : List Nat} {i c : Nat} (h : t[i]? = some c) : (t.take (i + 1)).foldl spStep ([], []) = spStep ((t.take i).foldl spStep ([], [])) c := by
  rw [List.take_add_one, h]
  simp
theorem words_len (t : List Nat) : (words t).length ≤ t.length := by
  rw [words_run]
  have h := spLen t ([], [])
  unfold spEnd
  split
  · simp at h ⊢
    omega
  · rename_i hne
    have : 0 < (t.foldl spStep ([], [])).2.length := List.length_pos_iff.mpr hne
    simp at h ⊢
    omega
end My
end

section
/-! The machine's store, read as short words and the bits between them. -/
namespace My
open Rc38

structure Good (s : Abs) : Prop where
  len : s.store.length = 512
  st : ∀ k, k < 512 → s.store.getD k 0 < 34359738368
  acc : s.acc < 2361183241434822606848
  mult : s.mult < 34359738368
  next : s.next < 1024
  tape : ∀ x ∈ s.tape, x < 32
  out : ∀ x ∈ s.out, x < 32
  last : s.last < 32
  tapl : s.tape.length ≤ 65536
  outl : s.out.length ≤ 65537
theorem good0 : Good {} := by
  refine ⟨List.length_replicate .., fun k hk => ?_, by decide, by decide, by decide, by simp, by simp, by decide, by decide, by decide⟩
  show (List.replicate 512 0).getD k 0 < 34359738368
  rw [List.getD_eq_getElem?_getD, List.getElem?_replicate, if_pos hk]
  decide
theorem p17 : (2 : Nat) ^ 17 = 131072 := by decide
theorem p18 : (2 : Nat) ^ 18 = 262144 := by decide
theorem p35 : (2 : Nat) ^ 35 = 34359738368 := by decide
theorem p71 : (2 : Nat) ^ 71 = 2361183241434822606848 := by decide
/-- the bit between the two words of a pair -/
def betw (s : Abs) (k : Nat) : Nat := s.store.getD k 0 / 131072 % 2
theorem long_def (s : Abs) (n : Nat) : long s n = s.store.getD (n / 2) 0 := rfl
theorem short_def (s : Abs) (n : Nat) : short s n = if n % 2 = 1 then s.store.getD (n / 2) 0 / 262144 else s.store.getD (n / 2) 0 % 131072 := rfl
theorem long_lt {s : Abs} (g : Good s) {n : Nat} (hn : n < 1024) : long s n < 34359738368 := g.st (n / 2) (by omega)
theorem short_lt {s : Abs} (g : Good s) {n : Nat} (hn : n < 1024) : short s n < 131072 := by
  have h := g.st (n / 2) (by omega)
  rw [short_def]
  split <;> omega
theorem betw_lt (s : Abs) (k : Nat) : betw s k < 2 := Nat.mod_lt _ (by decide)
theorem long_split (s : Abs) (k : Nat) : s.store.getD k 0 = short s (2 * k) + betw s k * 131072 + short s (2 * k + 1) * 262144 := by
  rw [short_def, short_def, if_neg (by omega), if_pos (by omega), show 2 * k / 2 = k by omega, show (2 * k + 1) / 2 = k by omega]
  unfold betw
  omega
theorem getD_set (l : List Nat) (i j x : Nat) (h : i < l.length) : (l.set i x).getD j 0 = if j = i then x else l.getD j 0 := by
  simp only [List.getD_eq_getElem?_getD, List.getElem?_set]
  by_cases e : i = j
  · subst e
    simp [h]
  · rw [if_neg e, if_neg (Ne.symm e)]
theorem putLong_store (s : Abs) (n x : Nat) : (putLong s n x).store = s.store.set (n / 2) (x % 34359738368) := rfl
theorem putLong_at {s : Abs} (g : Good s) {n : Nat} (hn : n < 1024) (x k : Nat) : (putLong s n x).store.getD k 0 = if k = n / 2 then x % 34359738368 else s.store.getD k 0 := by
  rw [putLong_store]
  exact getD_set _ _ _ _ (by rw [g.len]; omega)
theorem good_putLong {s : Abs} (g : Good s) {n : Nat} (hn : n < 1024) (x : Nat) : Good (putLong s n x) := by
  refine ⟨by rw [putLong_store, List.length_set]; exact g.len, fun k hk => ?_, g.acc, g.mult, g.next, g.tape, g.out, g.last, g.tapl, g.outl⟩
  rw [putLong_at g hn]
  split
  · omega
  · exact g.st k hk
/-- what stands in the pair behind a short word is put -/
def mixed (w n x : Nat) : Nat := if n % 2 = 1 then w % 262144 + x % 131072 * 262144 else w / 131072 * 131072 + x % 131072
theorem putShort_eq (s : Abs) (n x : Nat) : putShort s n x = putLong s n (mixed (s.store.getD (n / 2) 0) n x) := rfl
theorem mixed_lt {w : Nat} (hw : w < 34359738368) (n x : Nat) : mixed w n x < 34359738368 := by
  unfold mixed
  split <;> omega
theorem putShort_at {s : Abs} (g : Good s) {n : Nat} (hn : n < 1024) (x k : Nat) : (putShort s n x).store.getD k 0 = if k = n / 2 then mixed (s.store.getD (n / 2) 0) n x else s.store.getD k 0 := by
  rw [putShort_eq, putLong_at g hn, Nat.mod_eq_of_lt (mixed_lt (g.st (n / 2) (by omega)) n x)]
theorem good_putShort {s : Abs} (g : Good s) {n : Nat} (hn : n < 1024) (x : Nat) : Good (putShort s n x) := good_putLong g hn _
theorem short_putShort {s : Abs} (g : Good s) {n m : Nat} (hn : n < 1024) (x : Nat) : short (putShort s n x) m = if m = n then x % 131072 else short s m := by
  have hw := g.st (n / 2) (by omega)
  rw [short_def, short_def, putShort_at g hn]
  by_cases e : m = n
  · subst e
    rw [if_pos rfl, if_pos rfl]
    unfold mixed
    split <;> omega
  · rw [if_neg e]
    by_cases h2 : m / 2 = n / 2
    · rw [h2, if_pos rfl]
      unfold mixed
      by_cases hm : m % 2 = 1
      · rw [if_pos hm, if_pos hm, if_neg (by omega)]
        omega
      · rw [if_neg hm, if_neg hm, if_pos (by omega)]
        omega
    · rw [if_neg h2]
theorem betw_putShort {s : Abs} (g : Good s) {n : Nat} (hn : n < 1024) (x k : Nat) : betw (putShort s n x) k = betw s k := by
  have hw := g.st (n / 2) (by omega)
  unfold betw
  rw [putShort_at g hn]
  by_cases e : k = n / 2
  · rw [if_pos e, e]
    unfold mixed
    split <;> omega
  · rw [if_neg e]
theorem short_putLong {s : Abs} (g : Good s) {n m : Nat} (hn : n < 1024) (x : Nat) : short (putLong s n x) m = if m / 2 = n / 2 then (if m % 2 = 1 then x % 34359738368 / 262144 else x % 131072) else short s m := by
  rw [short_def, short_def, putLong_at g hn]
  by_cases e : m / 2 = n / 2
  · rw [if_pos e, if_pos e]
    split <;> omega
  · rw [if_neg e, if_neg e]
theorem betw_putLong {s : Abs} (g : Good s) {n : Nat} (hn : n < 1024) (x k : Nat) : betw (putLong s n x) k = if k = n / 2 then x / 131072 % 2 else betw s k := by
  unfold betw
  rw [putLong_at g hn]
  by_cases e : k = n / 2
  · rw [if_pos e, if_pos e]
    omega
  · rw [if_neg e, if_neg e]
/-! ### as lists -/
def shorts (s : Abs) : List Nat := (List.range 1024).map (short s)
def betws (s : Abs) : List Nat := (List.range 512).map (betw s)
theorem shorts_length (s : Abs) : (shorts s).length = 1024 := by simp [shorts]
theorem betws_length (s : Abs) : (betws s).length = 512 := by simp [betws]
theorem shorts_at (s : Abs) {n : Nat} (hn : n < 1024) : (shorts s)[n]? = some (short s n) := by
  unfold shorts
  rw [List.getElem?_map, List.getElem?_range hn]
  rfl
theorem betws_at (s : Abs) {k : Nat} (hk : k < 512) : (betws s)[k]? = some (betw s k) := by
  unfold betws
  rw [List.getElem?_map, List.getElem?_range hk]
  rfl
theorem list_ext {α : Type} {l m : List α} {n : Nat} (hl : l.length = n) (hm : m.length = n) (h : ∀ i, i < n → l[i]? = m[i]?) : l = m := by
  apply List.ext_getElem?
  intro i
  by_cases hi : i < n
  · exact h i hi
  · rw [List.getElem?_eq_none (by omega), List.getElem?_eq_none (by omega)]
theorem shorts_putShort {s : Abs} (g : Good s) {n : Nat} (hn : n < 1024) (x : Nat) : shorts (putShort s n x) = (shorts s).set n (x % 131072) := by
  refine list_ext (shorts_length _) (by rw [List.length_set]; exact shorts_length _) fun i hi => ?_
  rw [shorts_at _ hi, short_putShort g hn, List.getElem?_set]
  by_cases e : i = n
  · subst e
    rw [if_pos rfl, if_pos rfl, if_pos (by rw [shorts_length]; exact hn)]
  · rw [if_neg e, if_neg (Ne.symm e), shorts_at _ hi]
theorem betws_putShort {s : Abs} (g : Good s) {n : Nat} (hn : n < 1024) (x : Nat) : betws (putShort s n x) = betws s := by
  refine list_ext (betws_length _) (betws_length _) fun i hi => ?_
  rw [betws_at _ hi, betws_at _ hi, betw_putShort g hn]
theorem shorts_putLong {s : Abs} (g : Good s) {n : Nat} (hn : n < 1024) (x : Nat) : shorts (putLong s n x) = ((shorts s).set (2 * (n / 2)) (x % 131072)).set (2 * (n / 2) + 1) (x % 34359738368 / 262144) := by
  refine list_ext (shorts_length _) (by rw [List.length_set, List.length_set]; exact shorts_length _) fun i hi => ?_
  rw [shorts_at _ hi, short_putLong g hn, List.getElem?_set, List.getElem?_set, List.length_set, shorts_length]
  by_cases e : i / 2 = n / 2
  · rw [if_pos e]
    by_cases h1 : i % 2 = 1
    · rw [if_pos h1, if_pos (by omega), if_pos (by omega)]
    · rw [if_neg h1, if_neg (by omega), if_pos (by omega), if_pos (by omega)]
  · rw [if_neg e, if_neg (by omega), if_neg (by omega), shorts_at _ hi]
theorem betws_putLong {s : Abs} (g : Good s) {n : Nat} (hn : n < 1024) (x : Nat) : betws (putLong s n x) = (betws s).set (n / 2) (x / 131072 % 2) := by
  refine list_ext (betws_length _) (by rw [List.length_set]; exact betws_length _) fun i hi => ?_
  rw [betws_at _ hi, betw_putLong g hn, List.getElem?_set, betws_length]
  by_cases e : i = n / 2
  · rw [if_pos e, if_pos e.symm, if_pos (by omega)]
  · rw [if_neg e, if_neg (Ne.symm e), betws_at _ hi]
theorem shorts0 : shorts {} = List.replicate 1024 0 := by
  refine list_ext (shorts_length _) (List.length_replicate ..) fun i hi => ?_
  rw [shorts_at _ hi, short_def, List.getElem?_replicate, if_pos hi]
  have e : ({} : Abs).store.getD (i / 2) 0 = 0 := by
    show (List.replicate 512 0).getD (i / 2) 0 = 0
    rw [List.getD_eq_getElem?_getD, List.getElem?_replicate, if_pos (by omega)]
    rfl
  rw [e]
  split <;> rfl
theorem betws0 : betws {} = List.replicate 512 0 := by
  refine list_ext (betws_length _) (List.length_replicate ..) fun i hi => ?_
  rw [betws_at _ hi, List.getElem?_replicate, if_pos hi]
  unfold betw
  have e : ({} : Abs).store.getD i 0 = 0 := by
    show (List.replicate 512 0).getD i 0 = 0
    rw [List.getD_eq_getElem?_getD, List.getElem?_replicate, if_pos hi]
    rfl
  rw [e]
/-! ### puts -/
/-- the first j of the words are put -/
theorem range_zip_take (l : List Nat) (j : Nat) : ((List.range l.length).zip l).take j = (List.range (l.take j).length).zip (l.take j) := by
  rw [List.zip_eq_zipWith, List.take_zipWith, ← List.zip_eq_zipWith, List.take_range, List.length_take]
theorem puts_step (s : Abs) (n : Nat) {l : List Nat} {j x : Nat} (h : l[j]? = some x) : puts s n (l.take (j + 1)) = putShort (puts s n (l.take j)) (n + j) x := by
  unfold puts
  rw [← range_zip_take, ← range_zip_take, List.take_add_one]
  have hj : j < l.length := (List.getElem?_eq_some_iff.mp h).1
  have e : ((List.range l.length).zip l)[j]? = some (j, x) := by
    rw [List.getElem?_zip_eq_some]
    exact ⟨by rw [List.getElem?_range hj], h⟩
  rw [e, Option.toList_some, List.foldl_append]
  rfl
theorem puts_zero (s : Abs) (n : Nat) (l : List Nat) : puts s n (l.take 0) = s := by
  unfold puts
  simp
theorem good_puts {s : Abs} (g : Good s) {n : Nat} {l : List Nat} (h : n + l.length ≤ 1024) : ∀ j, j ≤ l.length → Good (puts s n (l.take j))
  | 0, _ => by rw [puts_zero]; exact g
  | j + 1, hj => by
    rw [puts_step s n (List.getElem?_eq_getElem (show j < l.length by omega))]
    exact good_putShort (good_puts g h j (by omega)) (by omega) _
/-- puts touches the store alone -/
theorem puts_same (s : Abs) (n : Nat) (l : List Nat) : ∃ st, puts s n l = { s with store := st } := by
  unfold puts
  generalize (List.range l.length).zip l = z
  have key : ∀ (z : List (Nat × Nat)) (st : List Nat), ∃ st', z.foldl (fun s x => putShort s (n + x.1) x.2) { s with store := st } = { s with store := st' } := by
    intro z
    induction z with
    | nil => exact fun st => ⟨st, rfl⟩
    | cons x z ih => exact fun st => ih _
  exact key z s.store
end My
end

section
/-! The calls as one list: what is asked, what is due, and how long it grows. -/
namespace My
open Rc38

theorem whole_id (c : List (List Int)) : PyRc38.whole c = c := by
  unfold PyRc38.whole
  split <;> rfl
abbrev stp := Rc38Neutral.step
def isTake (c : List (List Int)) : Bool := (c.headD []).headD 0 == 6
theorem asked_out {l : List Int} (h : PyRc38.answers_asked l = true) : ∃ cs, l = PyFlat.put cs ∧ (∀ c ∈ cs, Rc38Neutral.asked1 c = true) ∧ cs.length ≤ 400 ∧ (cs.filter isTake).length ≤ 10 ∧
    PyRc38.answers l = PyFlat.told (PyFlat.played stp {} cs) := by
  unfold PyRc38.answers_asked at h
  cases e : PyRc38.calls l with
  | none => rw [e] at h; cases h
  | some cs =>
    rw [e] at h
    have h : (PyFlat.atMost 400 cs && Rc38Neutral.asked cs) = true := h
    have e0 := e
    unfold PyRc38.calls at e
    cases e1 : PyFlat.calls PyRc38.shape l.length l with
    | none => rw [e1] at e; cases e
    | some ds =>
      rw [e1] at e
      have e2 : ds.map PyRc38.whole = cs := Option.some.inj e
      have e3 : ds.map PyRc38.whole = ds := by
        have : PyRc38.whole = id := funext whole_id
        rw [this, List.map_id]
      rw [e3] at e2
      subst e2
      obtain ⟨p1, p2⟩ := PyFlat.put_calls _ _ _ e1
      simp only [Bool.and_eq_true] at h
      have ha := h.2
      unfold Rc38Neutral.asked at ha
      simp only [Bool.and_eq_true, decide_eq_true_eq] at ha
      refine ⟨ds, p1, fun c hc => List.all_eq_true.mp ha.1.1 c hc, ha.1.2.1, ha.1.2.2, ?_⟩
      unfold PyRc38.answers
      rw [e0]
      rfl
/-! ### one call behind another -/
def runs (s : Abs) (cs : List (List (List Int))) : Abs := cs.foldl (fun s c => (stp s c).1) s
theorem runs_snoc (s : Abs) (cs : List (List (List Int))) (c : List (List Int)) : runs s (cs ++ [c]) = (stp (runs s cs) c).1 := by
  unfold runs
  rw [List.foldl_append]
  rfl
theorem played_snoc : ∀ (cs : List (List (List Int))) (s : Abs) (c : List (List Int)), PyFlat.played stp s (cs ++ [c]) = PyFlat.played stp s cs ++ [(stp (runs s cs) c).2]
  | [], s, c => rfl
  | d :: cs, s, c => by
    show (stp s d).2 :: PyFlat.played stp (stp s d).1 (cs ++ [c]) = (stp s d).2 :: PyFlat.played stp (stp s d).1 cs ++ _
    rw [played_snoc cs (stp s d).1 c]
    rfl
theorem told_snoc (as : List (List Int)) (a : List Int) : PyFlat.told (as ++ [a]) = PyFlat.told as ++ ((a.length : Int) :: a) := by
  unfold PyFlat.told
  rw [List.flatMap_append]
  simp
theorem put_append (cs ds : List (List (List Int))) : PyFlat.put (cs ++ ds) = PyFlat.put cs ++ PyFlat.put ds := by
  induction cs with
  | nil => rfl
  | cons c cs ih =>
    show PyFlat.put1 c ++ PyFlat.put (cs ++ ds) = PyFlat.put1 c ++ PyFlat.put cs ++ PyFlat.put ds
    rw [ih, List.append_assoc]
theorem put_one (c : List (List Int)) : PyFlat.put [c] = PyFlat.put1 c := List.append_nil _
theorem put_drop (cs : List (List (List Int))) (i : Nat) : (PyFlat.put cs).drop (PyFlat.put (cs.take i)).length = PyFlat.put (cs.drop i) := by
  have h : PyFlat.put cs = PyFlat.put (cs.take i) ++ PyFlat.put (cs.drop i) := by rw [← put_append, List.take_append_drop]
  rw [h, List.drop_left]
/-- each call takes a number at least -/
theorem put1_pos {c : List (List Int)} (h : Rc38Neutral.asked1 c = true) : 0 < (PyFlat.put1 c).length := by
  unfold Rc38Neutral.asked1 at h
  split at h <;> first | (simp [PyFlat.put1]; done) | cases h
/-! ### how long the answer grows -/
def most (c : List (List Int)) : Nat := if isTake c = true then 65540 else 10
def mosts (cs : List (List (List Int))) : Nat := (cs.map most).sum
theorem mosts_le : ∀ cs : List (List (List Int)), mosts cs ≤ 10 * cs.length + 65530 * (cs.filter isTake).length
  | [] => by simp [mosts]
  | c :: cs => by
    have ih := mosts_le cs
    unfold mosts at ih ⊢
    rw [List.map_cons, List.sum_cons, List.filter_cons]
    by_cases h : isTake c = true
    · have hm : most c = 65540 := if_pos h
      rw [hm, if_pos h, List.length_cons, List.length_cons]
      omega
    · have hm : most c = 10 := if_neg h
      rw [hm, if_neg h, List.length_cons]
      omega
theorem mosts_take (cs : List (List (List Int))) (i : Nat) : mosts (cs.take i) ≤ mosts cs := by
  have h : mosts cs = mosts (cs.take i) + mosts (cs.drop i) := by
    unfold mosts
    rw [← List.sum_append, ← List.map_append, List.take_append_drop]
  omega
theorem ans_len {s : Abs} (g : Good s) (c : List (List Int)) : (stp s c).2.length + 1 ≤ most c := by
  unfold most stp Rc38Neutral.step
  cases e : Rc38Neutral.callOf c with
  | none =>
    show 0 + 1 ≤ _
    split <;> decide
  | some x =>
    have hsz : ∀ (a : Ans), (a.value :: a.numbers.map fun (b : Nat) => (b : Int)).length = a.numbers.length + 1 := fun a => by simp
    show (_ :: _ : List Int).length + 1 ≤ _
    rw [hsz]
    unfold Rc38Neutral.callOf at e
    have tk : ∀ k : Int, (does s (.take k)).2.numbers.length ≤ 65537 := fun k => by
      show (s.out.take (room_ k)).length ≤ 65537
      rw [List.length_take]
      have := g.outl
      omega
    have oth : ∀ y : Rc38.Call, (∀ k, y ≠ .take k) → (does s y).2.numbers.length ≤ 6 := fun y hy => by
      cases y with
      | init => exact Nat.zero_le _
      | words a l n => unfold does; dsimp only; split <;> exact Nat.zero_le _
      | orders a t n =>
        unfold does
        dsimp only
        split
        · exact Nat.zero_le _
        · split
          · exact Nat.zero_le _
          · split <;> exact Nat.zero_le _
      | tape l n => unfold does; dsimp only; split <;> exact Nat.zero_le _
      | start a => unfold does; dsimp only; split <;> exact Nat.zero_le _
      | run n => unfold does; dsimp only; split <;> simp [refused]
      | take k => exact absurd rfl (hy k)
      | look a b => unfold does; dsimp only; split <;> simp [refused]
      | registers => simp [does]
    have o2 : ∀ (y : Rc38.Call) (c : List (List Int)), (∀ k, y ≠ .take k) → isTake c = false → (does s y).2.numbers.length + 1 + 1 ≤ if isTake c = true then 65540 else 10 := fun y c h1 h2 => by
      have := oth y h1
      rw [h2, if_neg Bool.false_ne_true]
      omega
    have t2 : ∀ (k : Int) (c : List (List Int)), isTake c = true → (does s (.take k)).2.numbers.length + 1 + 1 ≤ if isTake c = true then 65540 else 10 := fun k c h2 => by
      have := tk k
      rw [h2, if_pos rfl]
      omega
    split at e
    all_goals cases e
    · exact o2 _ _ (fun k z => by cases z) rfl
    · exact o2 _ _ (fun k z => by cases z) rfl
    · exact o2 _ _ (fun k z => by cases z) rfl
    · exact o2 _ _ (fun k z => by cases z) rfl
    · exact o2 _ _ (fun k z => by cases z) rfl
    · exact o2 _ _ (fun k z => by cases z) rfl
    · exact t2 _ _ rfl
    · exact o2 _ _ (fun k z => by cases z) rfl
    · exact o2 _ _ (fun k z => by cases z) rfl
theorem told_len {cs : List (List (List Int))} (g : ∀ i, i ≤ cs.length → Good (runs {} (cs.take i))) : ∀ i, i ≤ cs.length → (PyFlat.told (PyFlat.played stp {} (cs.take i))).length ≤ mosts (cs.take i)
  | 0, _ => Nat.zero_le _
  | i + 1, hi => by
    have ih := told_len g i (by omega)
    obtain ⟨c, hc⟩ : ∃ c, cs[i]? = some c := ⟨_, List.getElem?_eq_getElem (by omega)⟩
    have e : cs.take (i + 1) = cs.take i ++ [c] := by rw [List.take_add_one, hc]; rfl
    have hl := ans_len (g i (by omega)) c
    rw [e, played_snoc, told_snoc, List.length_append, List.length_cons]
    have em : mosts (cs.take i ++ [c]) = mosts (cs.take i) + most c := by
      unfold mosts
      simp
    rw [em]
    omega
end My
end

section
/-! One order, by its number; what stays good. -/
namespace My
open Rc38
theorem p12 : (2 : Nat) ^ 12 = 4096 := by decide
abbrev opOf (s : Abs) : Nat := short s s.next / 4096
abbrev adOf (s : Abs) : Nat := short s s.next / 2 % 1024
abbrev lgOf (s : Abs) : Bool := decide (short s s.next % 2 = 1)
/-- the next place -/
def nxt (s : Abs) : Abs := { s with next := (s.next + 1) % 1024 }
def inp (s : Abs) : Abs × End := match s.tape with
  | [] => (s, .tape)
  | c :: r => (if lgOf s = true then putLong { nxt s with tape := r } (adOf s) c else putShort { nxt s with tape := r } (adOf s) c, .done)
def outc (s : Abs) : Nat := if lgOf s = true then long s (adOf s) / 2 ^ 30 else short s (adOf s) / 2 ^ 12
theorem step_def (s : Abs) : step s = match SIGNS[opOf s]? with
  | some 'A' => (adds (nxt s) (wide s (adOf s) (lgOf s)), .done)
  | some 'S' => (adds (nxt s) (-wide s (adOf s) (lgOf s)), .done)
  | some 'H' => ({ nxt s with mult := full s (adOf s) (lgOf s) }, .done)
  | some 'V' => (adds (nxt s) (signed 35 s.mult * signed 35 (full s (adOf s) (lgOf s)) * 4), .done)
  | some 'N' => (adds (nxt s) (-(signed 35 s.mult * signed 35 (full s (adOf s) (lgOf s)) * 4)), .done)
  | some 'T' => ({ stored (nxt s) (adOf s) (lgOf s) with acc := 0 }, .done)
  | some 'U' => (stored (nxt s) (adOf s) (lgOf s), .done)
  | some 'C' => (adds (nxt s) (signed 35 (Nat.land s.mult (full s (adOf s) (lgOf s))) * 2 ^ 36), .done)
  | some 'R' => ({ nxt s with acc := bits 71 (signed 71 s.acc / 2 ^ (lowest 17 (short s s.next) + 1)) }, .done)
  | some 'L' => ({ nxt s with acc := s.acc * 2 ^ (lowest 17 (short s s.next) + 1) % 2 ^ 71 }, .done)
  | some 'E' => (if s.acc < 2 ^ 70 then { s with next := adOf s } else nxt s, .done)
  | some 'G' => (if s.acc < 2 ^ 70 then nxt s else { s with next := adOf s }, .done)
  | some 'I' => inp s
  | some 'O' => ({ nxt s with out := s.out ++ [outc s], last := outc s }, .done)
  | some 'F' => (if lgOf s = true then putLong (nxt s) (adOf s) (s.last * 2 ^ 30) else putShort (nxt s) (adOf s) (s.last * 2 ^ 12), .done)
  | some 'X' => (nxt s, .done)
  | some 'Y' => (adds (nxt s) (2 ^ 35), .done)
  | some 'Z' => ({ nxt s with stopped := true }, .halt_)
  | _ => (s, .unknown) := rfl
section
variable {s : Abs}
theorem step_A (h : opOf s = 28) : step s = (adds (nxt s) (wide s (adOf s) (lgOf s)), .done) := by rw [step_def, h]; rfl
theorem step_S (h : opOf s = 12) : step s = (adds (nxt s) (-wide s (adOf s) (lgOf s)), .done) := by rw [step_def, h]; rfl
theorem step_H (h : opOf s = 21) : step s = ({ nxt s with mult := full s (adOf s) (lgOf s) }, .done) := by rw [step_def, h]; rfl
theorem step_V (h : opOf s = 31) : step s = (adds (nxt s) (signed 35 s.mult * signed 35 (full s (adOf s) (lgOf s)) * 4), .done) := by rw [step_def, h]; rfl
theorem step_N (h : opOf s = 22) : step s = (adds (nxt s) (-(signed 35 s.mult * signed 35 (full s (adOf s) (lgOf s)) * 4)), .done) := by rw [step_def, h]; rfl
theorem step_T (h : opOf s = 5) : step s = ({ stored (nxt s) (adOf s) (lgOf s) with acc := 0 }, .done) := by rw [step_def, h]; rfl
theorem step_U (h : opOf s = 7) : step s = (stored (nxt s) (adOf s) (lgOf s), .done) := by rw [step_def, h]; rfl
theorem step_C (h : opOf s = 30) : step s = (adds (nxt s) (signed 35 (Nat.land s.mult (full s (adOf s) (lgOf s))) * 2 ^ 36), .done) := by rw [step_def, h]; rfl
theorem step_R (h : opOf s = 4) : step s = ({ nxt s with acc := bits 71 (signed 71 s.acc / 2 ^ (lowest 17 (short s s.next) + 1)) }, .done) := by rw [step_def, h]; rfl
theorem step_L (h : opOf s = 25) : step s = ({ nxt s with acc := s.acc * 2 ^ (lowest 17 (short s s.next) + 1) % 2 ^ 71 }, .done) := by rw [step_def, h]; rfl
theorem step_E (h : opOf s = 3) : step s = (if s.acc < 2 ^ 70 then { s with next := adOf s } else nxt s, .done) := by rw [step_def, h]; rfl
theorem step_G (h : opOf s = 27) : step s = (if s.acc < 2 ^ 70 then nxt s else { s with next := adOf s }, .done) := by rw [step_def, h]; rfl
theorem step_I (h : opOf s = 8) : step s = inp s := by rw [step_def, h]; rfl
theorem step_O (h : opOf s = 9) : step s = ({ nxt s with out := s.out ++ [outc s], last := outc s }, .done) := by rw [step_def, h]; rfl
theorem step_F (h : opOf s = 17) : step s = (if lgOf s = true then putLong (nxt s) (adOf s) (s.last * 2 ^ 30) else putShort (nxt s) (adOf s) (s.last * 2 ^ 12), .done) := by rw [step_def, h]; rfl
theorem step_X (h : opOf s = 26) : step s = (nxt s, .done) := by rw [step_def, h]; rfl
theorem step_Y (h : opOf s = 6) : step s = (adds (nxt s) (2 ^ 35), .done) := by rw [step_def, h]; rfl
theorem step_Z (h : opOf s = 13) : step s = ({ nxt s with stopped := true }, .halt_) := by rw [step_def, h]; rfl
/-- the signs that are orders, by their numbers -/
def isOp (k : Nat) : Bool := [28, 12, 21, 31, 22, 5, 7, 30, 4, 25, 3, 27, 8, 9, 17, 26, 6, 13].contains k
theorem step_no (h : opOf s < 32) (hn : isOp (opOf s) = false) : step s = (s, .unknown) := by
  rw [step_def]
  generalize opOf s = k at h hn
  have key : ∀ k, k < 32 → isOp k = false → k ∈ [0, 1, 2, 10, 11, 14, 15, 16, 18, 19, 20, 23, 24, 29] := by decide
  have hm := key k h hn
  simp only [List.mem_cons, List.not_mem_nil, or_false] at hm
  rcases hm with rfl | rfl | rfl | rfl | rfl | rfl | rfl | rfl | rfl | rfl | rfl | rfl | rfl | rfl <;> rfl
theorem opn_lt (g : Good s) : opOf s < 32 := by
  have := short_lt g g.next
  show short s s.next / 4096 < 32
  omega
theorem ad_lt : adOf s < 1024 := Nat.mod_lt _ (by decide)
end
/-! ### numbers with a sign -/
theorem signed_def (w x : Nat) : signed w x = if x < 2 ^ (w - 1) then (x : Int) else (x : Int) - 2 ^ w := rfl
theorem signed17 {x : Nat} : signed 17 x = if x < 65536 then (x : Int) else (x : Int) - 131072 := rfl
theorem signed35 {x : Nat} : signed 35 x = if x < 17179869184 then (x : Int) else (x : Int) - 34359738368 := rfl
theorem signed71 {x : Nat} : signed 71 x = if x < 1180591620717411303424 then (x : Int) else (x : Int) - 2361183241434822606848 := rfl
theorem bits71 (z : Int) : bits 71 z = (z % 2361183241434822606848).toNat := rfl
theorem adds_acc (s : Abs) (z : Int) : (adds s z).acc = (((s.acc : Int) + z) % 2361183241434822606848).toNat := by
  show bits 71 (signed 71 s.acc + z) = _
  rw [bits71, signed71]
  split
  · rfl
  · congr 1
    omega
theorem adds_eq (s : Abs) (z : Int) : adds s z = { s with acc := (((s.acc : Int) + z) % 2361183241434822606848).toNat } := by
  have h := adds_acc s z
  show ({ s with acc := (adds s z).acc } : Abs) = _
  rw [h]
theorem mod71_lt (z : Int) : (z % 2361183241434822606848).toNat < 2361183241434822606848 := by omega
/-! ### what stays good -/
theorem good_nxt {s : Abs} (g : Good s) : Good (nxt s) := ⟨g.len, g.st, g.acc, g.mult, Nat.mod_lt _ (by decide), g.tape, g.out, g.last, g.tapl, g.outl⟩
theorem good_acc {s : Abs} (g : Good s) {a : Nat} (h : a < 2361183241434822606848) : Good { s with acc := a } := ⟨g.len, g.st, h, g.mult, g.next, g.tape, g.out, g.last, g.tapl, g.outl⟩
theorem good_adds {s : Abs} (g : Good s) (z : Int) : Good (adds s z) := by
  rw [adds_eq]
  exact good_acc g (mod71_lt _)
theorem good_mult {s : Abs} (g : Good s) {a : Nat} (h : a < 34359738368) : Good { s with mult := a } := ⟨g.len, g.st, g.acc, h, g.next, g.tape, g.out, g.last, g.tapl, g.outl⟩
theorem good_next {s : Abs} (g : Good s) {a : Nat} (h : a < 1024) : Good { s with next := a } := ⟨g.len, g.st, g.acc, g.mult, h, g.tape, g.out, g.last, g.tapl, g.outl⟩
theorem good_stop {s : Abs} (g : Good s) (b : Bool) : Good { s with stopped := b } := ⟨g.len, g.st, g.acc, g.mult, g.next, g.tape, g.out, g.last, g.tapl, g.outl⟩
theorem good_stored {s : Abs} (g : Good s) {n : Nat} (hn : n < 1024) (l : Bool) : Good (stored s n l) := by
  unfold stored
  split
  · exact good_putLong g hn _
  · exact good_putShort g hn _
theorem full_lt {s : Abs} (g : Good s) {n : Nat} (hn : n < 1024) (l : Bool) : full s n l < 34359738368 := by
  unfold full
  split
  · exact long_lt g hn
  · have := short_lt g hn
    show short s n * 262144 < _
    omega
theorem outc_lt {s : Abs} (g : Good s) : outc s < 32 := by
  unfold outc
  split
  · have := long_lt g (n := adOf s) ad_lt
    show long s (adOf s) / 1073741824 < 32
    omega
  · have := short_lt g (n := adOf s) ad_lt
    show short s (adOf s) / 4096 < 32
    omega
theorem good_step {s : Abs} (g : Good s) (hc : s.out.length ≤ 65536) : Good (step s).1 := by
  have gn := good_nxt g
  have hop := opn_lt g
  by_cases hk : isOp (opOf s) = true
  · generalize hk' : opOf s = k at hk hop
    have key : ∀ k, k < 32 → isOp k = true → k ∈ [28, 12, 21, 31, 22, 5, 7, 30, 4, 25, 3, 27, 8, 9, 17, 26, 6, 13] := by decide
    have hm := key k hop hk
    simp only [List.mem_cons, List.not_mem_nil, or_false] at hm
    rcases hm with rfl | rfl | rfl | rfl | rfl | rfl | rfl | rfl | rfl | rfl | rfl | rfl | rfl | rfl | rfl | rfl | rfl | rfl
    · rw [step_A hk']; exact good_adds gn _
    · rw [step_S hk']; exact good_adds gn _
    · rw [step_H hk']; exact good_mult gn (full_lt g ad_lt _)
    · rw [step_V hk']; exact good_adds gn _
    · rw [step_N hk']; exact good_adds gn _
    · rw [step_T hk']; exact good_acc (good_stored gn ad_lt _) (by decide)
    · rw [step_U hk']; exact good_stored gn ad_lt _
    · rw [step_C hk']; exact good_adds gn _
    · rw [step_R hk']; exact good_acc gn (by rw [bits71]; exact mod71_lt _)
    · rw [step_L hk']; exact good_acc gn (Nat.mod_lt _ (by decide))
    · rw [step_E hk']
      split
      · exact good_next g ad_lt
      · exact gn
    · rw [step_G hk']
      split
      · exact gn
      · exact good_next g ad_lt
    · rw [step_I hk']
      unfold inp
      split
      · exact g
      · rename_i c r ht
        have gt : Good { nxt s with tape := r } := ⟨gn.len, gn.st, gn.acc, gn.mult, gn.next, fun x hx => g.tape x (by rw [ht]; exact List.mem_cons_of_mem _ hx), gn.out, gn.last, by have := g.tapl; rw [ht, List.length_cons] at this; show r.length ≤ 65536; omega, gn.outl⟩
        show Good (if lgOf s = true then _ else _)
        split
        · exact good_putLong gt ad_lt _
        · exact good_putShort gt ad_lt _
    · rw [step_O hk']
      refine ⟨gn.len, gn.st, gn.acc, gn.mult, gn.next, gn.tape, fun x hx => ?_, outc_lt g, gn.tapl, ?_⟩
      · rcases List.mem_append.mp hx with z | z
        · exact g.out x z
        · rw [List.mem_singleton.mp z]
          exact outc_lt g
      · show (s.out ++ [outc s]).length ≤ 65537
        rw [List.length_append]
        simp
        omega
    · rw [step_F hk']
      show Good (if lgOf s = true then _ else _)
      split
      · exact good_putLong gn ad_lt _
      · exact good_putShort gn ad_lt _
    · rw [step_X hk']; exact gn
    · rw [step_Y hk']; exact good_adds gn _
    · rw [step_Z hk']; exact good_stop gn _
  · rw [step_no hop (by simpa using hk)]
    exact g
/-! ### run, one order behind another -/
theorem run_zero (s : Abs) : run 0 s = (s, 0, 0) := rfl
theorem run_stop {s : Abs} (h : s.stopped = true) (n : Nat) : run (n + 1) s = (s, 1, 0) := if_pos h
theorem run_calm {s : Abs} (h : s.stopped = false) (hc : 65536 < s.out.length) (n : Nat) : run (n + 1) s = (s, 4, 0) := by
  show (if s.stopped = true then _ else if CALM < s.out.length then _ else _) = _
  rw [if_neg (by rw [h]; decide), if_pos (show CALM < s.out.length from hc)]
theorem run_step {s : Abs} (h : s.stopped = false) (hc : s.out.length ≤ 65536) (n : Nat) : run (n + 1) s = match step s with
    | (t, .done) => ((run n t).1, (run n t).2.1, (run n t).2.2 + 1)
    | (t, .halt_) => (t, 1, 1)
    | (t, .tape) => (t, 2, 0)
    | (t, .unknown) => (t, 3, 0) := by
  show (if s.stopped = true then _ else if CALM < s.out.length then _ else _) = _
  rw [if_neg (by rw [h]; decide), if_neg (show ¬ CALM < s.out.length by show ¬ 65536 < s.out.length; omega)]
  rfl
end My
end

section
/-! The lowest bit that is 1. -/
namespace My
open Rc38 PySem PyProof.Rows
theorem lowest_zero (x : Nat) : lowest 0 x = 0 := rfl
theorem lowest_succ (f x : Nat) : lowest (f + 1) x = if x % 2 = 1 then 0 else 1 + lowest f (x / 2) := rfl
theorem lowest_spec : ∀ (f x : Nat), 0 < x → x < 2 ^ f → lowest f x < f ∧ ∃ a, x = 2 ^ lowest f x * (2 * a + 1)
  | 0, x, h, h2 => by simp at h2; omega
  | f + 1, x, h, h2 => by
    rw [lowest_succ]
    split
    · next h1 => exact ⟨by omega, x / 2, by simp; omega⟩
    · next h1 =>
      have h3 : x / 2 < 2 ^ f := by rw [Nat.pow_succ] at h2; omega
      obtain ⟨l, a, e⟩ := lowest_spec f (x / 2) (by omega) h3
      refine ⟨by omega, a, ?_⟩
      have e2 : x = 2 * (x / 2) := by omega
      rw [e2]
      conv => lhs; rw [e]
      rw [Nat.add_comm 1, Nat.pow_succ, ← e2, Nat.mul_comm _ 2, Nat.mul_assoc]
theorem low_and {w : Nat} (h : 0 < w) (h2 : w < 131072) : Builtin.bitAnd (w : Int) (-(w : Int)) = ((2 ^ lowest 17 w : Nat) : Int) := by
  obtain ⟨_, a, e⟩ := lowest_spec 17 w h (by simpa using h2)
  have e2 : ((w : Nat) : Int) = 2 ^ lowest 17 w * (2 * (a : Int) + 1) := by
    conv => lhs; rw [e]
    push_cast
    rfl
  rw [e2, PySem.W.kbt_low, ← PySem.W.kbt_cast]
theorem intBits_pow (k : Nat) : Builtin.Int.intBits ((2 ^ k : Nat) : Int) = k + 1 := by
  have h1 : Builtin.Int.intBits ((2 ^ k : Nat) : Int) ≤ k + 1 := intBits_le_iff.mpr (by
    rw [Int.natAbs_natCast, Nat.pow_succ]
    have := Nat.two_pow_pos k
    omega)
  have h2 : ¬ Builtin.Int.intBits ((2 ^ k : Nat) : Int) ≤ k := fun h => by
    have := intBits_le_iff.mp h
    rw [Int.natAbs_natCast] at this
    omega
  omega
theorem low_bits {w : Nat} (h : 0 < w) (h2 : w < 131072) : Builtin.Int.intBits (Builtin.bitAnd (w : Int) (-(w : Int))) = lowest 17 w + 1 := by
  rw [low_and h h2, intBits_pow]
end My
end

section
/-! Numbers with a sign: what bits_of and with_sign make, and the bits that two of them share. -/
namespace My
open Rc38 PySem PyProof.Rows
theorem bnat (a b : Nat) : Builtin.bitAnd (a : Int) (b : Int) = ((a &&& b : Nat) : Int) := by
  rw [bitAnd_pp (by omega) (by omega), Int.toNat_natCast, Int.toNat_natCast]
theorem land_halves (a b : Nat) : a &&& b = 2 * (a / 2 &&& b / 2) + if a % 2 = 1 ∧ b % 2 = 1 then 1 else 0 := by
  have h := PySem.W.kbt_halves (a : Int) (b : Int)
  rw [bnat, show (a : Int) / 2 = ((a / 2 : Nat) : Int) by omega, show (b : Int) / 2 = ((b / 2 : Nat) : Int) by omega, bnat] at h
  by_cases c : a % 2 = 1 ∧ b % 2 = 1
  · rw [if_pos c]
    rw [if_pos (by omega)] at h
    omega
  · rw [if_neg c]
    rw [if_neg (by omega)] at h
    omega
theorem pow2s (k : Nat) : (2 : Int) ^ (k + 1) = 2 * 2 ^ k := by rw [Int.pow_succ, Int.mul_comm]
theorem pow2n (k : Nat) : (2 : Nat) ^ (k + 1) = 2 * 2 ^ k := by rw [Nat.pow_succ, Nat.mul_comm]
theorem signed_two (w x : Nat) : signed (w + 2) x = 2 * signed (w + 1) (x / 2) + ((x % 2 : Nat) : Int) := by
  rw [signed_def, signed_def, show w + 2 - 1 = w + 1 by omega, show w + 1 - 1 = w by omega, pow2s (w + 1), pow2s w, pow2n w]
  generalize (2 : Int) ^ w = p
  generalize 2 ^ w = q
  split
  · rw [if_pos (by omega)]; omega
  · rw [if_neg (by omega)]; omega
theorem signed_and : ∀ (w a b : Nat), a < 2 ^ (w + 1) → b < 2 ^ (w + 1) → Builtin.bitAnd (signed (w + 1) a) (signed (w + 1) b) = signed (w + 1) (a &&& b)
  | 0, a, b, ha, hb => by
    have key : ∀ a, a < 2 → ∀ b, b < 2 → Builtin.bitAnd (signed (0 + 1) a) (signed (0 + 1) b) = signed (0 + 1) (a &&& b) := by decide
    exact key a ha b hb
  | w + 1, a, b, ha, hb => by
    rw [pow2n (w + 1)] at ha hb
    have ih := signed_and w (a / 2) (b / 2) (by omega) (by omega)
    have la := land_halves a b
    rw [PySem.W.kbt_halves, signed_two w a, signed_two w b, signed_two w (a &&& b)]
    have e1 : (2 * signed (w + 1) (a / 2) + ((a % 2 : Nat) : Int)) / 2 = signed (w + 1) (a / 2) := by omega
    have e2 : (2 * signed (w + 1) (b / 2) + ((b % 2 : Nat) : Int)) / 2 = signed (w + 1) (b / 2) := by omega
    have e3 : (2 * signed (w + 1) (a / 2) + ((a % 2 : Nat) : Int)) % 2 = ((a % 2 : Nat) : Int) := by omega
    have e4 : (2 * signed (w + 1) (b / 2) + ((b % 2 : Nat) : Int)) % 2 = ((b % 2 : Nat) : Int) := by omega
    rw [e1, e2, e3, e4, ih]
    by_cases c : a % 2 = 1 ∧ b % 2 = 1
    · rw [if_pos c] at la
      rw [if_pos (by omega), show (a &&& b) / 2 = a / 2 &&& b / 2 by omega, show (a &&& b) % 2 = 1 by omega]
      rfl
    · rw [if_neg c] at la
      rw [if_neg (by omega), show (a &&& b) / 2 = a / 2 &&& b / 2 by omega, show (a &&& b) % 2 = 0 by omega]
      rfl
theorem pow_pos2 (k : Nat) : (0 : Int) < 2 ^ k := by
  rw [← PySem.W.kbt_cast]
  have := Nat.two_pow_pos k
  omega
theorem signed_lt (k : Nat) {x : Nat} (h : x < 2 ^ (k + 1)) : -(2 ^ k) ≤ signed (k + 1) x ∧ signed (k + 1) x < 2 ^ k := by
  rw [signed_def, show k + 1 - 1 = k by omega, pow2s, ← PySem.W.kbt_cast k]
  rw [pow2n] at h
  split <;> omega
theorem signed_mod (k : Nat) {z : Int} (h1 : -(2 ^ k) ≤ z) (h2 : z < 2 ^ k) : signed (k + 1) (z % 2 ^ (k + 1)).toNat = z := by
  have hp := pow_pos2 k
  rw [signed_def, show k + 1 - 1 = k by omega]
  have e := PySem.W.kbt_cast k
  rw [pow2s]
  generalize hq : 2 ^ k = q at e
  generalize (2 : Int) ^ k = p at *
  subst e
  by_cases c : 0 ≤ z
  · have e1 : z % (2 * (q : Int)) = z := Int.emod_eq_of_lt c (by omega)
    rw [e1, if_pos (by omega)]
    omega
  · have e1 : z % (2 * (q : Int)) = z + 2 * q := by
      rw [← Int.add_emod_right, Int.emod_eq_of_lt (by omega) (by omega)]
    rw [e1, if_neg (by omega)]
    omega
theorem mod_signed (k : Nat) {x : Nat} (h : x < 2 ^ (k + 1)) : signed (k + 1) x % 2 ^ (k + 1) = (x : Int) := by
  rw [signed_def]
  have e : (x : Int) < 2 ^ (k + 1) := by
    rw [← PySem.W.kbt_cast]
    omega
  split
  · exact Int.emod_eq_of_lt (by omega) e
  · rw [Int.sub_emod_right]
    exact Int.emod_eq_of_lt (by omega) e
theorem sign_xor (k : Nat) (z : Int) : Builtin.bitXor (z % 2 ^ (k + 1)) (2 ^ k) - 2 ^ k = signed (k + 1) (z % 2 ^ (k + 1)).toNat := by
  rw [bitXor_and, PySem.W.kbt_bit, signed_def, show k + 1 - 1 = k by omega]
  have hp := pow_pos2 k
  have e := PySem.W.kbt_cast k
  have h1 : 0 ≤ z % 2 ^ (k + 1) := Int.emod_nonneg _ (by have := pow_pos2 (k + 1); omega)
  have h2 : z % 2 ^ (k + 1) < 2 ^ (k + 1) := Int.emod_lt_of_pos _ (pow_pos2 _)
  generalize z % 2 ^ (k + 1) = x at *
  rw [pow2s] at *
  generalize hq : 2 ^ k = q at e
  generalize (2 : Int) ^ k = p at *
  subst e
  by_cases c : x < (q : Int)
  · have e0 : x / (q : Int) = 0 := Int.ediv_eq_zero_of_lt h1 c
    rw [e0, if_pos (by omega)]
    simp
    omega
  · have e0 : x / (q : Int) = 1 := by
      have a1 : x = (x - q) + q * 1 := by omega
      rw [a1, Int.add_mul_ediv_left _ _ (by omega), Int.ediv_eq_zero_of_lt (by omega) (by omega)]
      rfl
    rw [e0, if_neg (by omega)]
    simp
    omega
theorem wide_eq (s : Abs) (n : Nat) (l : Bool) (h : short s n < 131072) : wide s n l = signed 35 (full s n l) * 2 ^ 36 := by
  unfold wide full
  cases l with
  | true => rfl
  | false =>
    rw [if_neg (by decide), if_neg (by decide), signed17, signed35, p18]
    split
    · rw [if_pos (by omega)]
      show _ * (18014398509481984 : Int) = _ * (68719476736 : Int)
      omega
    · rw [if_neg (by omega)]
      show _ * (18014398509481984 : Int) = _ * (68719476736 : Int)
      omega
theorem short_full {x : Nat} (h : x < 131072) : signed 17 x * 2 ^ 18 = signed 35 (x * 2 ^ 18) := by
  rw [signed17, signed35, p18]
  show _ * (262144 : Int) = _
  split
  · rw [if_pos (by omega)]; omega
  · rw [if_neg (by omega)]; omega
theorem acc_neg {s : Abs} (g : Good s) : (0 ≤ signed 71 s.acc) ↔ s.acc < 2 ^ 70 := by
  have := g.acc
  rw [signed71]
  show _ ↔ s.acc < 1180591620717411303424
  split <;> omega
theorem left_eq (a k : Nat) : (a * 2 ^ k % 2 ^ 71) = (signed 71 a * 2 ^ k % 2 ^ 71).toNat := by
  rw [signed_def]
  split
  · have e : ((a : Int) * 2 ^ k % 2 ^ 71) = ((a * 2 ^ k % 2 ^ 71 : Nat) : Int) := by
      rw [Int.natCast_emod, Int.natCast_mul, PySem.W.kbt_cast, PySem.W.kbt_cast]
    rw [e, Int.toNat_natCast]
  · have e : (((a : Int) - 2 ^ 71) * 2 ^ k % 2 ^ 71) = ((a * 2 ^ k % 2 ^ 71 : Nat) : Int) := by
      rw [Int.sub_mul, Int.sub_emod, Int.mul_emod_right, Int.sub_zero, Int.emod_emod_of_dvd _ (Int.dvd_refl _), Int.natCast_emod, Int.natCast_mul, PySem.W.kbt_cast, PySem.W.kbt_cast]
    rw [e, Int.toNat_natCast]
theorem half_lt {z : Int} (k : Nat) {b : Int} (h1 : -b ≤ z) (h2 : z < b) (hb : 0 < b) : -b ≤ z / 2 ^ k ∧ z / 2 ^ k < b := by
  have hp := pow_pos2 k
  by_cases c : 0 ≤ z
  · exact ⟨by have := Int.ediv_nonneg c (by omega : (0 : Int) ≤ 2 ^ k); omega, Int.lt_of_le_of_lt (Int.ediv_le_self _ c) h2⟩
  · constructor
    · rw [Int.le_ediv_iff_mul_le hp]
      have : (-b) * 2 ^ k ≤ -b * 1 := Int.mul_le_mul_of_nonpos_left (by omega) (by omega)
      omega
    · have : z / 2 ^ k < 0 := Int.ediv_neg_of_neg_of_pos (by omega) hp
      omega
end My
end

section
set_option Elab.async false
set_option linter.all false
set_option maxRecDepth 100000
set_option maxHeartbeats 4000000
/-! The defs of letters.py keep their promises. -/
namespace My
open PySem PySem.Spec PyProof.Rows L2
def top (i : Nat) : Stmt := PySem.Challenge.pw_oldmachine_s01_answers.main.body.getD i (.Pass ⟨0, 0, 0, 0⟩)
def GI (mg : Str → Option Value) (x : Str) (i : Int) : Prop := ∃ t, mg x = some (.int i t)
def GS (mg : Str → Option Value) (x z : Str) : Prop := ∃ t, mg x = some (.str z t)
theorem pe_gi {X : Cx} {x : Str} {i : Int} {pos : Pos} (h : GI X.mg x i) (hg : Gl X x := by rfl) (hd : (x == ("__debug__" : Str)) = false := by decide) : PE X (.Name x pos) (tC (.int i)) := by
  obtain ⟨t, e⟩ := h
  exact pe_glob hg e ⟨t, rfl⟩ hd
theorem pe_gs {X : Cx} {x z : Str} {pos : Pos} (h : GS X.mg x z) (hg : Gl X x := by rfl) (hd : (x == ("__debug__" : Str)) = false := by decide) : PE X (.Name x pos) (tC (.str z)) := by
  obtain ⟨t, e⟩ := h
  exact pe_glob hg e ⟨t, rfl⟩ hd
abbrev bmE : List Value := [.type "Exception", .type "BaseException", .type "object"]
abbrev signsS : Str := "PQWERTYUIOJ#SZK*.F@D!HNM&LXGABCV"
abbrev iv (c : Nat) : V := V.int (c : Int)
abbrev ivs (l : List Nat) : List V := l.map iv
theorem ivs_append (a b : List Nat) : ivs (a ++ b) = ivs a ++ ivs b := List.map_append ..
/-- what the top has bound, as letters.py reads it -/
structure TL (K : PySem.W.Frag) (mg : Str → Option Value) (CN : Addr) : Prop where
  signs : GS mg "SIGNS" signsS
  sho : GS mg "SHORT_ENDING" "F"
  lon : GS mg "LONG_ENDING" "D"
  space : GI mg "SPACE" 32
  lineEnd : GI mg "LINE_END" 10
  d0 : GI mg "DIGIT_ZERO" 48
  d9 : GI mg "DIGIT_NINE" 57
  most : GI mg "MOST_DIGITS" 4
  below : GI mg "NUMBERS_BELOW" 2048
  weight : GI mg "SIGN_WEIGHT" 4096
  np : mg "NoProgram" = some (.ref CN)
  exc : PySem.W.excIn K CN bmE "Exception.__new__" = true
  len : mg "len" = none
  enu : mg "enumerate" = none
  ord : mg "ord" = none
section
variable {P : Program} {w : World} {K : PySem.W.Frag} {mg : Str → Option Value} {base : Heap}
theorem own_def {CX : CXT} {N : List Str} {qual : Str} {scope : Scope} {f : Addr} {cd : Value} {A : Around} {outer : List Env} {s : Shared} {H : Hp} {E : XK} :
    PassesOwn (model (cxOf CX P w K mg base N qual scope f cd A outer s H E).prog (cxOf CX P w K mg base N qual scope f cd A outer s H E).w) (cxOf CX P w K mg base N qual scope f cd A outer s H E).A
      (cxOf CX P w K mg base N qual scope f cd A outer s H E).env (cxOf CX P w K mg base N qual scope f cd A outer s H E).xe := PassesOwn.leaving

/-! ### long_bit -/
def spBit (CN : Addr) : Sp := fun vs H Q E => ∃ c : Nat, vs = [iv c] ∧ (c = 70 → Q (.int 0) H) ∧ (c = 68 → Q (.int 1) H) ∧ (c ≠ 70 → c ≠ 68 → E (.ref CN) none H)
theorem scB : FnScope ["code"] ["code"] (defScope (top 23)) := ⟨rfl, rfl, rfl, by decide +kernel, rfl, by decide +kernel, by decide +kernel⟩
theorem ok_bit {f CN : Addr} {fd : FuncData} (F : Fun K "long_bit" "long_bit" (top 23) f fd) (T : TL K mg CN) : FnOk P w K mg base (CXx P w) 1 f fd ["code"] (spBit CN) := by
  refine F.okx scB (fun vs H Q E h => ?_) (fun cdv A outer s H vs Q E hr h => ?_)
  · obtain ⟨c, rfl, _⟩ := h
    rfl
  · obtain ⟨c, rfl, h1, h2, h3⟩ := h
    refine ⟨_, pss_cons (ps_if (pt_cmpR op_eq (pv 0) (pe_callB call_ord rfl T.ord boot_ord (pa_cons (pe_gs T.sho) pa_nil)) (nomark _)) (pss_one (ps_ret pe_int)) pss_nil)
      (pss_cons (ps_if (pt_cmpR op_eq (pv 0) (pe_callB call_ord rfl T.ord boot_ord (pa_cons (pe_gs T.lon) pa_nil)) (nomark _)) (pss_one (ps_ret pe_int)) pss_nil)
      (pss_one (ps_raise xp_def.xp0 rfl rfl T.np T.exc PySem.F.excBase_Exception (pa_cons pe_str pa_nil)))), ?_⟩
    refine ⟨_, rfl, _, rfl, rfl, rfl, _, rfl, ite2 (fun e => ?_) (fun e => ?_)⟩
    · have e' : V.int (c : Int) = V.int 70 := of_decide_eq_true e
      have e2 : (c : Int) = 70 := V.int.inj e'
      exact h1 (by omega)
    · have n70 : c ≠ 70 := fun z => e (by subst z; exact decide_eq_true rfl)
      refine ⟨_, rfl, _, rfl, rfl, rfl, _, rfl, ite2 (fun e => ?_) (fun e => ?_)⟩
      · have e' : V.int (c : Int) = V.int 68 := of_decide_eq_true e
        have e2 : (c : Int) = 68 := V.int.inj e'
        exact h2 (by omega)
      · have n68 : c ≠ 68 := fun z => e (by subst z; exact decide_eq_true rfl)
        exact ⟨by show 1 ≤ sizeLine; decide, h3 n70 n68⟩

/-! ### sign_number -/
def sgs : List Nat := [80, 81, 87, 69, 82, 84, 89, 85, 73, 79, 74, 35, 83, 90, 75, 42, 46, 70, 64, 68, 33, 72, 78, 77, 38, 76, 88, 71, 65, 66, 67, 86]
theorem sgs_cps : signsS.cps.toList = sgs := by decide +kernel
theorem sgs_signs : Rc38.SIGNS.map Char.toNat = sgs := by decide +kernel
theorem signOf_sgs (c : Nat) : signOf c = sgs.findIdx? (fun x => x == c) := by
  rw [← sgs_signs, List.findIdx?_map]
  rfl
def spSign (CN : Addr) : Sp := fun vs H Q E => ∃ c : Nat, vs = [iv c] ∧ ∀ H', Same H H' → (∀ k, signOf c = some k → Q (iv k) H') ∧ (signOf c = none → E (.ref CN) none H')
theorem scS : FnScope ["code", "number", "sign"] ["code"] (defScope (top 21)) := ⟨rfl, rfl, rfl, by decide +kernel, rfl, by decide +kernel, by decide +kernel⟩
theorem Same.upd {H H' : Hp} (s : Same H H') {T : Addr} (n : H' T = none) (o : HO) : Same H (upd H' T o) := fun b u e => by
  rw [upd_ne (ne_of_none (s b u e) n)]
  exact s b u e
theorem ok_sign {f CN : Addr} {fd : FuncData} (F : Fun K "sign_number" "sign_number" (top 21) f fd) (T : TL K mg CN) : FnOk P w K mg base (CXx P w) 1 f fd ["code"] (spSign CN) := by
  refine F.okx scS (fun vs H Q E h => ?_) (fun cdv A outer s H vs Q E hr h => ?_)
  · obtain ⟨c, rfl, _⟩ := h
    rfl
  · obtain ⟨c, rfl, h⟩ := h
    refine ⟨_, pss_cons (ps_for own_def rfl (pi_enumS rfl T.enu (pa_cons (pe_gs T.signs) pa_nil)) (pg_tup rfl (pgs_cons (pg_name (i := 1) scS.nd rfl (Or.inl rfl)) (pgs_cons (pg_name (i := 2) scS.nd rfl (Or.inl rfl)) pgs_nil)))
        (pss_one (ps_if (pt_cmpR op_eq (pe_callB call_ord rfl T.ord boot_ord (pa_cons (pv 2) pa_nil)) (pv 0) (nomark _)) (pss_one (ps_ret (pv 1))) pss_nil)))
      (pss_one (ps_raise xp_def.xp0 rfl rfl T.np T.exc PySem.F.excBase_Exception (pa_cons pe_str pa_nil))), ?_⟩
    refine ⟨_, rfl, for_enumS (fun i σ H' => ∃ v1 v2, σ = [some (iv c), v1, v2] ∧ Same H H' ∧ ∀ j, j < i → ∀ x, sgs[j]? = some x → x ≠ c) ⟨none, none, rfl, Same.refl H, fun j hj => absurd hj (Nat.not_lt_zero _)⟩ ?_ ?_⟩
    · rintro i x Tu σ H1 hx ⟨v1, v2, rfl, sm, no⟩ hT
      have hx' : sgs[i]? = some x := by rw [← sgs_cps, Array.getElem?_toList]; exact hx
      have sm2 := Same.upd sm hT (.tup [.int (i : Nat), .str ⟨#[x]⟩])
      refine ⟨Tu, _, rfl, SqT.of upd_same, rfl, _, _, rfl, _, _, rfl, rfl, ?_⟩
      refine ⟨_, rfl, _, rfl, rfl, _, rfl, rfl, _, rfl, ite2 (fun e => ?_) (fun e => ?_)⟩
      · have e' : V.int (x : Int) = V.int (c : Int) := of_decide_eq_true e
        have e2 : (x : Int) = (c : Int) := V.int.inj e'
        have e3 : x = c := by omega
        subst e3
        refine ⟨_, rfl, (h _ sm2).1 i ?_⟩
        rw [signOf_sgs]
        obtain ⟨hi, hi2⟩ := List.getElem?_eq_some_iff.mp hx'
        refine List.findIdx?_eq_some_iff_getElem.mpr ⟨hi, by rw [hi2]; simp, fun j hj => ?_⟩
        have := no j hj sgs[j] (List.getElem?_eq_getElem _)
        simpa using this
      · have ne : x ≠ c := fun z => e (by subst z; exact decide_eq_true rfl)
        refine ⟨_, _, rfl, sm2, fun j hj y hy => ?_⟩
        by_cases hji : j = i
        · subst hji
          rw [hx'] at hy
          cases hy
          exact ne
        · exact no j (by omega) y hy
    · rintro σ H1 ⟨v1, v2, rfl, sm, no⟩
      refine ⟨by show 1 ≤ sizeLine; decide, (h _ sm).2 ?_⟩
      rw [signOf_sgs, List.findIdx?_eq_none_iff]
      intro x hm
      obtain ⟨j, hj, e⟩ := List.mem_iff_getElem.mp hm
      have hs : signsS.cps.size = 32 := by decide +kernel
      have := no j (by rw [hs]; exact hj) x (by rw [← e]; exact List.getElem?_eq_getElem hj)
      simpa using this

/-! ### written_number -/
def spNum (K : PySem.W.Frag) (CN : Addr) : Sp := fun vs H Q E => ∃ (a : Addr) (ds : List Nat), vs = [.ref a] ∧ SqL K H a (ivs ds) ∧ (okDig ds → Q (iv (value ds)) H) ∧ (¬ okDig ds → E (.ref CN) none H)
theorem scN : FnScope ["digits", "number", "code"] ["digits"] (defScope (top 22)) := ⟨rfl, rfl, rfl, by decide +kernel, rfl, by decide +kernel, by decide +kernel⟩
theorem value_snoc (l : List Nat) (x : Nat) : value (l ++ [x]) = 10 * value l + (x - 48) := by
  unfold value
  rw [List.foldl_append]
  rfl
theorem take_snoc {α : Type} {l : List α} {i : Nat} {x : α} (h : l[i]? = some x) : l.take (i + 1) = l.take i ++ [x] := by
  rw [List.take_add_one, h]
  rfl
theorem all_take {p : Nat → Bool} {l : List Nat} (h : l.all p = true) (i : Nat) : (l.take i).all p = true := by
  rw [List.all_eq_true] at h ⊢
  exact fun x hx => h x (List.mem_of_mem_take hx)
theorem ivs_get {l : List Nat} {i : Nat} {v : V} (h : (ivs l)[i]? = some v) : ∃ x, l[i]? = some x ∧ v = iv x := by
  rw [List.getElem?_map] at h
  cases e : l[i]? with
  | none => rw [e] at h; cases h
  | some x => rw [e] at h; exact ⟨x, rfl, (Option.some.inj h).symm⟩
theorem ok_num {f CN : Addr} {fd : FuncData} (F : Fun K "written_number" "written_number" (top 22) f fd) (T : TL K mg CN) : FnOk P w K mg base (CXx P w) 1 f fd ["digits"] (spNum K CN) := by
  refine F.okx scN (fun vs H Q E h => ?_) (fun cdv A outer s H vs Q E hr h => ?_)
  · obtain ⟨a, ds, rfl, _⟩ := h
    rfl
  · obtain ⟨a, ds, rfl, hS, hQ, hE⟩ := h
    have rz : ∀ {A B : Prop}, (A → B) → A → B := fun f a => f a
    refine ⟨_, pss_cons (ps_if (pt_cmpR op_gt (pe_callB call_len_seq rfl T.len PySem.boot_len (pa_cons (pv 0) pa_nil)) (pe_gi T.most) (nomark _)) (pss_one (ps_raise xp_def.xp0 rfl rfl T.np T.exc PySem.F.excBase_Exception (pa_cons pe_str pa_nil))) pss_nil)
      (pss_cons (ps_set (i := 1) scN.nd rfl (Or.inl rfl) pe_int)
      (pss_cons (ps_for own_def rfl (pi_list (pv 0)) (pg_name (i := 2) scN.nd rfl (Or.inl rfl))
        (pss_cons (ps_if (pt_not (pt_chain op_le op_le (pe_gi T.d0) (pv 2) (pe_gi T.d9))) (pss_one (ps_raise xp_def.xp0 rfl rfl T.np T.exc PySem.F.excBase_Exception (pa_cons pe_str pa_nil))) pss_nil)
          (pss_one (ps_set (i := 1) scN.nd rfl (Or.inl rfl) (pe_op op_sub (pe_op op_add (pe_op op_mul (pv 1) pe_int) (pv 2)) (pe_gi T.d0))))))
      (pss_cons (ps_if (pt_cmpR op_ge (pv 1) (pe_gi T.below) (nomark _)) (pss_one (ps_raise xp_def.xp0 rfl rfl T.np T.exc PySem.F.excBase_Exception (pa_cons pe_str pa_nil))) pss_nil)
      (pss_one (ps_ret (pv 1)))))), ?_⟩
    refine ⟨_, rfl, a, _, rfl, .inl hS, _, _, rfl, rfl, _, rfl, ite2 (fun e => ?_) (fun e => ?_)⟩
    · have e' : (4 : Int) < ((ivs ds).length : Nat) := of_decide_eq_true e
      rw [List.length_map] at e'
      exact ⟨by show 1 ≤ sizeLine; decide, hE fun z => by have := z.1; omega⟩
    · have h4 : ds.length ≤ 4 := by
        by_cases z : ds.length ≤ 4
        · exact z
        · exact absurd (decide_eq_true (show (4 : Int) < ((ivs ds).length : Nat) by rw [List.length_map]; omega)) e
      refine ⟨_, rfl, a, rfl, ⟨_, hS⟩, for_list (K := K) (a := a) (xs := ivs ds) (fun i σ H' => H' = H ∧ ∃ v2, σ = [some (.ref a), some (iv (value (ds.take i))), v2] ∧ (ds.take i).all isDig = true) ⟨rfl, none, rfl, rfl⟩ (fun i σ H' _ z => by rw [z.1]; exact hS) ?_ ?_⟩
      · rintro i y σ H' hi ⟨rfl, v2, rfl, hall⟩
        obtain ⟨x, hx, rfl⟩ := ivs_get hi
        have hxm : x ∈ ds := List.mem_of_getElem? hx
        refine ⟨_, rfl, _, _, rfl, rfl, _, rfl, ite2 (fun e1 => ⟨_, _, rfl, rfl, _, rfl, ite2 (fun e2 => ?_) (fun e2 => ?_)⟩) (fun e1 => ⟨_, rfl, iteT ?_⟩)⟩
        · refine ⟨by show 1 ≤ sizeLine; decide, hE fun z => ?_⟩
          have hd := List.all_eq_true.mp z.2.1 x hxm
          have hd : 48 ≤ x ∧ x ≤ 57 := by simpa [isDig] using hd
          have e3 : decide ((x : Int) ≤ 57) = true := decide_eq_true (by omega)
          rw [e3] at e2
          cases e2
        · have h48 : (48 : Int) ≤ (x : Int) := of_decide_eq_true e1
          have h57 : (x : Int) ≤ 57 := by
            by_cases z : (x : Int) ≤ 57
            · exact z
            · rw [decide_eq_false z] at e2
              exact absurd rfl e2
          have hd : isDig x = true := decide_eq_true ⟨by omega, by omega⟩
          refine ⟨_, rfl, _, _, rfl, rfl, .inr ⟨by decide, by decide⟩, _, rfl, _, _, rfl, rfl, _, _, rfl, rfl, rfl, some (iv x), ?_, ?_⟩
          · have ev : (((value (ds.take i) : Nat) : Int) * 10 + (x : Int) - 48) = ((value (ds.take (i + 1)) : Nat) : Int) := by
              rw [take_snoc hx, value_snoc]
              omega
            show [some (V.ref a), some (V.int (((value (ds.take i) : Nat) : Int) * 10 + (x : Int) - 48)), some (iv x)] = _
            rw [ev]
          · rw [take_snoc hx, List.all_append, hall]
            simp [hd]
        · refine ⟨by show 1 ≤ sizeLine; decide, hE fun z => ?_⟩
          have hd := List.all_eq_true.mp z.2.1 x hxm
          have hd : 48 ≤ x ∧ x ≤ 57 := by simpa [isDig] using hd
          exact e1 (decide_eq_true (by omega))
      · rintro σ H' ⟨rfl, v2, rfl, hall⟩
        rw [List.length_map, List.take_length] at hall ⊢
        refine ⟨_, rfl, _, _, rfl, rfl, _, rfl, ite2 (fun e1 => ?_) (fun e1 => ?_)⟩
        · have e2 : (2048 : Int) ≤ ((value ds : Nat) : Int) := of_decide_eq_true e1
          exact ⟨by show 1 ≤ sizeLine; decide, hE fun z => by have := z.2.2; omega⟩
        · have e2 : value ds < 2048 := by
            by_cases z : value ds < 2048
            · exact z
            · exact absurd (decide_eq_true (show (2048 : Int) ≤ ((value ds : Nat) : Int) by omega)) e1
          exact ⟨_, rfl, hQ ⟨h4, hall, e2⟩⟩

/-! ### order_word -/
def spOrd (K : PySem.W.Frag) (CN : Addr) : Sp := fun vs H Q E => ∃ (a : Addr) (codes : List Nat), vs = [.ref a] ∧ SqL K H a (ivs codes) ∧ ∀ H', Same H H' → (∀ k, Rc38.orderOf codes = some k → Q (iv k) H') ∧ (Rc38.orderOf codes = none → E (.ref CN) none H')
theorem scO : FnScope ["codes", "sign", "number"] ["codes"] (defScope (top 20)) := ⟨rfl, rfl, rfl, by decide +kernel, rfl, by decide +kernel, by decide +kernel⟩
theorem cut_mid (c : Nat) (r : List Nat) (hr : r ≠ []) : cutV (ivs (c :: r)) (some 1) (some (-1)) = ivs r.dropLast := by
  have hl : (ivs (c :: r)).length = r.length + 1 := by simp
  have hp : 0 < r.length := List.length_pos_iff.mpr hr
  have e1 : HT.sIx (ivs (c :: r)).length 0 (some 1) = 1 := by
    have := HT.sIx_nat (ivs (c :: r)).length 0 1
    rw [show ((1 : Nat) : Int) = 1 from rfl] at this
    rw [this, hl]
    omega
  have e2 : HT.sIx (ivs (c :: r)).length (ivs (c :: r)).length (some (-1)) = r.length := by
    have h := HT.clip_eq (-1) (ivs (c :: r)).length (ivs (c :: r)).length
    rw [if_pos (by decide), hl] at h
    rw [hl]
    omega
  unfold cutV
  rw [e1, e2]
  show (r.map iv).take (r.length - 1) = r.dropLast.map iv
  rw [List.dropLast_eq_take, List.map_take]
theorem ok_ord {f CN fS fN fB : Addr} {fd fdS fdN fdB : FuncData} (F : Fun K "order_word" "order_word" (top 20) f fd) (T : TL K mg CN)
    (FS : Fun K "sign_number" "sign_number" (top 21) fS fdS) (bS : Binds K fdS ["code"] []) (mS : mg "sign_number" = some (.ref fS))
    (FN : Fun K "written_number" "written_number" (top 22) fN fdN) (bN : Binds K fdN ["digits"] []) (mN : mg "written_number" = some (.ref fN))
    (FB : Fun K "long_bit" "long_bit" (top 23) fB fdB) (bB : Binds K fdB ["code"] []) (mB : mg "long_bit" = some (.ref fB)) : FnOk P w K mg base (CXx P w) 2 f fd ["codes"] (spOrd K CN) := by
  have GS1 : FnOk P w K mg base (CXx P w) 1 fS fdS ["code"] (spSign CN) := ok_sign FS T
  have GN1 : FnOk P w K mg base (CXx P w) 1 fN fdN ["digits"] (spNum K CN) := ok_num FN T
  have GB1 : FnOk P w K mg base (CXx P w) 1 fB fdB ["code"] (spBit CN) := ok_bit FB T
  refine F.okx scO (fun vs H Q E h => ?_) (fun cdv A outer s H vs Q E hr h => ?_)
  · obtain ⟨a, codes, rfl, _⟩ := h
    rfl
  · obtain ⟨a, codes, rfl, hS, h⟩ := h
    refine ⟨_, pss_cons (ps_if (pt_cmpR op_lt (pe_callB call_len_seq rfl T.len PySem.boot_len (pa_cons (pv 0) pa_nil)) pe_int (nomark _)) (pss_one (ps_raise xp_def.xp0 rfl rfl T.np T.exc PySem.F.excBase_Exception (pa_cons pe_str pa_nil))) pss_nil)
      (pss_cons (ps_set (i := 1) scO.nd rfl (Or.inl rfl) (pe_call GS1 hr rfl mS FS.kp bS .nil xp_def.xp0.passes (pa_cons (pe_ix ix_list (pv 0) pe_int (fun _ _ => rfl)) pa_nil)))
      (pss_cons (ps_set (i := 2) scO.nd rfl (Or.inl rfl) (pe_call GN1 hr rfl mN FN.kp bN .nil xp_def.xp0.passes (pa_cons (pe_slice sl_list (pv 0) (po_some pe_int) (po_some (pe_un un_neg pe_int))) pa_nil)))
      (pss_one (ps_ret (pe_op op_add (pe_op op_add (pe_op op_mul (pv 1) (pe_gi T.weight)) (pe_op op_mul pe_int (pv 2))) (pe_call GB1 hr rfl mB FB.kp bB .nil xp_def.xp0.passes (pa_cons (pe_ix ix_list (pv 0) (pe_un un_neg pe_int) (fun _ _ => rfl)) pa_nil))))))), ?_⟩
    refine ⟨_, rfl, a, _, rfl, .inl hS, _, _, rfl, rfl, _, rfl, ite2 (fun e => ?_) (fun e => ?_)⟩
    · have e' : (((ivs codes).length : Nat) : Int) < 2 := of_decide_eq_true e
      rw [List.length_map] at e'
      exact ⟨by show 1 ≤ sizeLine; decide, (h H (Same.refl H)).2 (ow_short (by omega))⟩
    · have hl : 2 ≤ codes.length := by
        by_cases z : 2 ≤ codes.length
        · exact z
        · exact absurd (decide_eq_true (show (((ivs codes).length : Nat) : Int) < 2 by rw [List.length_map]; omega)) e
      cases codes with
      | nil => simp at hl
      | cons c r =>
        have hr0 : r ≠ [] := by
          intro z
          subst z
          simp at hl
        refine ⟨_, rfl, a, _, _, _, rfl, rfl, hS, atI_nat (j := 0) (v := iv c) rfl, c, rfl, fun H1 s1 => ⟨fun k hk => ?_, fun hn => (h H1 s1).2 (ow_nosign hn)⟩⟩
        refine ⟨_, rfl, _, rfl, _, rfl, _, rfl, a, _, rfl, s1.seq hS, fun p hp => ?_⟩
        have s2 : Same H (upd H1 p (.lst (ivs r.dropLast))) := Same.upd s1 hp _
        rw [cut_mid c r hr0]
        refine ⟨p, r.dropLast, rfl, SqL.of upd_same, fun hd => ?_, fun hd => (h _ s2).2 (ow_nonum hr0 hk hd)⟩
        obtain ⟨x, hx⟩ : ∃ x, r.getLast? = some x := ⟨r.getLast hr0, List.getLast?_eq_some_getLast hr0⟩
        have hat : atI (ivs (c :: r)) (-1) = some (iv x) := by
          have e1 : c :: r = (c :: r.dropLast) ++ [x] := by
            have := List.dropLast_concat_getLast hr0
            have e2 : r.getLast hr0 = x := Option.some.inj ((List.getLast?_eq_some_getLast hr0).symm.trans hx)
            rw [e2] at this
            show c :: r = c :: (r.dropLast ++ [x])
            rw [this]
          rw [e1]
          show atI (ivs ((c :: r.dropLast) ++ [x])) (-1) = _
          rw [show ivs ((c :: r.dropLast) ++ [x]) = ivs (c :: r.dropLast) ++ [iv x] from by simp]
          exact atI_last _ _
        have ho := ow_end hr0 hk hd hx
        refine ⟨_, rfl, _, _, rfl, rfl, .inr ⟨by decide, by decide⟩, _, rfl, _, _, rfl, rfl, .inl ⟨by decide, by decide⟩, _, _, rfl, rfl, _, rfl, _, rfl, a, _, _, _, rfl, rfl, s2.seq hS, hat, x, rfl, fun z => ?_, fun z => ?_, fun z1 z2 => ?_⟩
        · subst z
          refine ⟨_, _, rfl, rfl, ?_⟩
          have := (h _ s2).1 _ (by rw [ho, if_pos rfl])
          have e3 : ((k : Int) * 4096 + 2 * ((value r.dropLast : Nat) : Int) + 0) = ((k * 4096 + 2 * value r.dropLast : Nat) : Int) := by omega
          show Q (V.int ((k : Int) * 4096 + 2 * ((value r.dropLast : Nat) : Int) + 0)) _
          rw [e3]
          exact this
        · subst z
          refine ⟨_, _, rfl, rfl, ?_⟩
          have := (h _ s2).1 _ (by rw [ho, if_neg (by decide), if_pos rfl])
          have e3 : ((k : Int) * 4096 + 2 * ((value r.dropLast : Nat) : Int) + 1) = ((k * 4096 + 2 * value r.dropLast + 1 : Nat) : Int) := by omega
          show Q (V.int ((k : Int) * 4096 + 2 * ((value r.dropLast : Nat) : Int) + 1)) _
          rw [e3]
          exact this
        · exact (h _ s2).2 (by rw [ho, if_neg z1, if_neg z2])

/-! ### split_orders -/
/-- lists at these addresses -/
def Lists (H : Hp) (as : List Addr) (ws : List (List Nat)) : Prop := as.length = ws.length ∧ ∀ (j : Nat) (a : Addr) (w : List Nat), as[j]? = some a → ws[j]? = some w → H a = some (.lst (ivs w))
def spSplit (K : PySem.W.Frag) : Sp := fun vs H Q _ => ∃ (a : Addr) (t : List Nat), vs = [.ref a] ∧ SqL K H a (ivs t) ∧ t.length ≤ 16384 ∧
  ∀ (H' : Hp) (p : Addr) (as : List Addr), Same H H' → H' p = some (.lst (as.map V.ref)) → Lists H' as (Rc38.words t) → Q (.ref p) H'
structure Spl (H H' : Hp) (o cd : Addr) (as : List Addr) (q : List (List Nat) × List Nat) : Prop where
  sm : Same H H'
  ord : H' o = some (.lst (as.map V.ref))
  cod : H' cd = some (.lst (ivs q.2))
  ls : Lists H' as q.1
  ne : o ≠ cd
  nom : o ∉ as
  ncm : cd ∉ as
  fo : H o = none
  fc : H cd = none
  fa : ∀ a ∈ as, H a = none
theorem scP : FnScope ["text", "orders", "codes", "code"] ["text"] (defScope (top 19)) := ⟨rfl, rfl, rfl, by decide +kernel, rfl, by decide +kernel, by decide +kernel⟩
theorem Lists.upd {H : Hp} {as : List Addr} {ws : List (List Nat)} (l : Lists H as ws) {c : Addr} (n : c ∉ as) (o : HO) : Lists (upd H c o) as ws :=
  ⟨l.1, fun j a w h1 h2 => by rw [upd_ne (fun z => n (by rw [← z]; exact List.mem_of_getElem? h1))]; exact l.2 j a w h1 h2⟩
theorem Lists.snoc {H : Hp} {as : List Addr} {ws : List (List Nat)} (l : Lists H as ws) {c : Addr} {w : List Nat} (h : H c = some (.lst (ivs w))) : Lists H (as ++ [c]) (ws ++ [w]) := by
  refine ⟨by rw [List.length_append, List.length_append, l.1]; rfl, fun j a x h1 h2 => ?_⟩
  by_cases hj : j < as.length
  · rw [List.getElem?_append_left hj] at h1
    rw [List.getElem?_append_left (by rw [← l.1]; exact hj)] at h2
    exact l.2 j a x h1 h2
  · rw [List.getElem?_append_right (by omega)] at h1
    rw [List.getElem?_append_right (by rw [← l.1]; omega)] at h2
    have e : j - as.length = 0 := by
      cases z : j - as.length with
      | zero => rfl
      | succ m => rw [z] at h1; simp at h1
    rw [e] at h1
    rw [← l.1, e] at h2
    cases h1
    cases h2
    exact h
theorem Lists.fresh {H : Hp} {as : List Addr} {ws : List (List Nat)} (l : Lists H as ws) {p : Addr} (hp : H p = none) : p ∉ as := fun z => by
  obtain ⟨j, hj, ej⟩ := List.mem_iff_getElem.mp z
  have hw : j < ws.length := by rw [← l.1]; exact hj
  have := l.2 j p _ (by rw [← ej]; exact List.getElem?_eq_getElem hj) (List.getElem?_eq_getElem hw)
  rw [hp] at this
  cases this
/-- codes is put behind the others -/
theorem Spl.put {H H' : Hp} {o cd : Addr} {as : List Addr} {q : List (List Nat) × List Nat} (S : Spl H H' o cd as q) :
    Same H (upd H' o (.lst (as.map V.ref ++ [.ref cd]))) ∧ (upd H' o (.lst (as.map V.ref ++ [.ref cd]))) o = some (.lst ((as ++ [cd]).map V.ref)) ∧ Lists (upd H' o (.lst (as.map V.ref ++ [.ref cd]))) (as ++ [cd]) (q.1 ++ [q.2]) ∧ o ∉ as ++ [cd] ∧ ∀ a ∈ as ++ [cd], H a = none := by
  refine ⟨fun b u e => ?_, ?_, ?_, ?_, fun a ha => ?_⟩
  · rw [upd_ne (fun z => by rw [z, S.fo] at e; cases e)]
    exact S.sm b u e
  · rw [upd_same, List.map_append]
    rfl
  · exact (S.ls.snoc S.cod).upd (by rw [List.mem_append]; exact fun z => z.elim S.nom fun y => S.ne (List.mem_singleton.mp y)) _
  · rw [List.mem_append]
    exact fun z => z.elim S.nom fun y => S.ne (List.mem_singleton.mp y)
  · rcases List.mem_append.mp ha with z | z
    · exact S.fa a z
    · rw [List.mem_singleton.mp z]
      exact S.fc
theorem line_small {n : Nat} (h : n ≤ 16384) : n < sizeLine := Nat.lt_of_le_of_lt h (by decide)
theorem ok_split {f CN : Addr} {fd : FuncData} (F : Fun K "split_orders" "split_orders" (top 19) f fd) (T : TL K mg CN) : FnOk P w K mg base (CXx P w) 1 f fd ["text"] (spSplit K) := by
  refine F.okx scP (fun vs H Q E h => ?_) (fun cdv A outer s H vs Q E hr h => ?_)
  · obtain ⟨a, t, rfl, _⟩ := h
    rfl
  · obtain ⟨a, t, rfl, hS, hlen, hQ⟩ := h
    refine ⟨_, pss_cons (ps_set (i := 1) scP.nd rfl (Or.inl rfl) (pe_lst pa_nil))
      (pss_cons (ps_set (i := 2) scP.nd rfl (Or.inl rfl) (pe_lst pa_nil))
      (pss_cons (ps_for own_def rfl (pi_list (pv 0)) (pg_name (i := 3) scP.nd rfl (Or.inl rfl))
        (pss_one (ps_if (PW.pt (pw_or (pt_cmpR op_eq (pv 3) (pe_gi T.space) (nomark _)) (pw_or1 (pt_cmpR op_eq (pv 3) (pe_gi T.lineEnd) (nomark _)))))
          (pss_cons (ps_if (pt_cmpR op_gt (pe_callB call_len_seq rfl T.len PySem.boot_len (pa_cons (pv 2) pa_nil)) pe_int (nomark _))
              (pss_one (ps_expr (pe_bm PySem.F.plainAttrs_list PySem.F.slot_list_append PySem.F.type_list_append mt_append (pv 1) (pa_cons (pv 2) pa_nil)))) pss_nil)
            (pss_one (ps_set (i := 2) scP.nd rfl (Or.inl rfl) (pe_lst pa_nil))))
          (pss_one (ps_expr (pe_bm PySem.F.plainAttrs_list PySem.F.slot_list_append PySem.F.type_list_append mt_append (pv 2) (pa_cons (pv 3) pa_nil)))))))
      (pss_cons (ps_if (pt_cmpR op_gt (pe_callB call_len_seq rfl T.len PySem.boot_len (pa_cons (pv 2) pa_nil)) pe_int (nomark _))
          (pss_one (ps_expr (pe_bm PySem.F.plainAttrs_list PySem.F.slot_list_append PySem.F.type_list_append mt_append (pv 1) (pa_cons (pv 2) pa_nil)))) pss_nil)
      (pss_one (ps_ret (pv 1)))))), ?_⟩
    refine ⟨Nat.zero_le _, fun o ho => ⟨Nat.zero_le _, fun cd hcd => ?_⟩⟩
    have one : o ≠ cd := ne_of_none upd_same hcd
    have hcd' : H cd = none := by rw [upd_ne (Ne.symm one)] at hcd; exact hcd
    have s1 : Same H (upd H o (.lst [])) := Same.upd (Same.refl H) ho _
    have s2 : Same H (upd (upd H o (.lst [])) cd (.lst [])) := Same.upd s1 hcd _
    have S0 : Spl H (upd (upd H o (.lst [])) cd (.lst [])) o cd [] ((t.take 0).foldl spStep ([], [])) :=
      ⟨s2, by rw [upd_ne one, upd_same]; rfl, upd_same, ⟨rfl, fun j a w h => by simp at h⟩, one, by simp, by simp, ho, hcd', fun a h => by simp at h⟩
    have szs : ∀ i, i ≤ t.length → ((t.take i).foldl spStep ([], [])).1.length + ((t.take i).foldl spStep ([], [])).2.length ≤ i := fun i hi => by
      have := spLen (t.take i) ([], [])
      rw [List.length_take] at this
      simp at this
      omega
    refine ⟨_, rfl, a, rfl, ⟨_, s2.seq hS⟩, for_list (K := K) (a := a) (xs := ivs t) (fun i σ H' => ∃ (cd : Addr) (v3 : Option V) (as : List Addr), σ = [some (.ref a), some (.ref o), some (.ref cd), v3] ∧ Spl H H' o cd as ((t.take i).foldl spStep ([], [])))
      ⟨cd, none, [], rfl, S0⟩ (fun i σ H' _ ⟨_, _, _, _, S⟩ => S.sm.seq hS) ?_ ?_⟩
    · rintro i y σ H' hi ⟨cd, v3, as, rfl, S⟩
      obtain ⟨x, hx, rfl⟩ := ivs_get hi
      have hit : i < t.length := (List.getElem?_eq_some_iff.mp hx).1
      have hz := szs i (Nat.le_of_lt hit)
      have hst := spTake hx
      generalize hq : (t.take i).foldl spStep ([], []) = q at S hz hst
      have hal : as.length = q.1.length := S.ls.1
      -- a separator
      have sep : (x = 32 ∨ x = 10) → ∀ (D : Ends), (∀ (cd' : Addr) (as' : List Addr) (H2 : Hp), Spl H H2 o cd' as' (spStep q x) → D.nx [some (.ref a), some (.ref o), some (.ref cd'), some (iv x)] H2) →
          (tSeq (tIfS (tTest (tOp (rI0 fun i j => V.bl (decide (j < i))) (tCB (fun xs H Q => ∃ p ys, xs = [V.ref p] ∧ (SqL K H p ys ∨ SqT K H p ys) ∧ Q (.int ys.length) H) (tCons (tVar 2) tNil)) (tC (.int 0)))) (tDrop (tBM K "list" rAppend (tVar 1) (tCons (tVar 2) tNil))) tNext)
            (tAsg (tLst tNil) (gName 2))) D [some (.ref a), some (.ref o), some (.ref cd), some (iv x)] H' := by
        intro hsep D kD
        have e0 := spStep_sep (p := q) hsep
        refine ⟨_, rfl, cd, _, rfl, .inl (SqL.of S.cod), _, _, rfl, rfl, _, rfl, ite2 (fun e => ?_) (fun e => ?_)⟩
        · have e' : (0 : Int) < (((ivs q.2).length : Nat) : Int) := of_decide_eq_true e
          rw [List.length_map] at e'
          have hne : q.2 ≠ [] := fun z => by rw [z] at e'; simp at e'
          obtain ⟨p1, p2, p3, p4, p5⟩ := S.put
          refine ⟨_, rfl, .inl ⟨rfl, _, SqL.of S.ord⟩, _, rfl, o, _, _, rfl, rfl, S.ord, (by rw [List.length_map]; exact line_small (by omega)), Nat.zero_le _, fun p hp => ?_⟩
          refine kD p (as ++ [cd]) _ ?_
          rw [e0, if_neg hne]
          exact ⟨Same.upd p1 hp _, by rw [upd_ne (ne_of_none p2 hp)]; exact p2, upd_same, p3.upd (p3.fresh hp) _, ne_of_none p2 hp, p4, p3.fresh hp, S.fo, p1.free hp, p5⟩
        · have he : q.2 = [] := by
            cases z : q.2 with
            | nil => rfl
            | cons b l => exact absurd (decide_eq_true (show (0 : Int) < (((ivs q.2).length : Nat) : Int) by rw [z]; simp)) e
          refine ⟨Nat.zero_le _, fun p hp => ?_⟩
          refine kD p as _ ?_
          rw [e0, if_pos he]
          exact ⟨Same.upd S.sm hp _, by rw [upd_ne (ne_of_none S.ord hp)]; exact S.ord, upd_same, S.ls.upd (S.ls.fresh hp) _, ne_of_none S.ord hp, S.nom, S.ls.fresh hp, S.fo, S.sm.free hp, S.fa⟩
      refine ⟨_, rfl, rfl, _, rfl, ite2 (fun e => ?_) (fun e => ?_)⟩
      · have e' : V.int (x : Int) = V.int 32 := of_decide_eq_true e
        have e2 : (x : Int) = 32 := V.int.inj e'
        exact iteT (sep (.inl (by omega)) _ fun cd' as' H2 S2 => ⟨cd', _, as', rfl, by rw [hst]; exact S2⟩)
      · refine ⟨_, rfl, rfl, _, rfl, ite2 (fun e1 => ?_) (fun e1 => ?_)⟩
        · have e' : V.int (x : Int) = V.int 10 := of_decide_eq_true e1
          have e2 : (x : Int) = 10 := V.int.inj e'
          exact sep (.inr (by omega)) _ fun cd' as' H2 S2 => ⟨cd', _, as', rfl, by rw [hst]; exact S2⟩
        · have n1 : x ≠ 32 := fun z => e (by subst z; exact decide_eq_true rfl)
          have n2 : x ≠ 10 := fun z => e1 (by subst z; exact decide_eq_true rfl)
          refine ⟨_, rfl, .inl ⟨rfl, _, SqL.of S.cod⟩, _, rfl, cd, _, _, rfl, rfl, S.cod, (by rw [List.length_map]; exact line_small (by omega)), ?_⟩
          refine ⟨cd, _, as, rfl, ?_⟩
          rw [hst, spStep_no (by omega)]
          exact ⟨fun b u e => by rw [upd_ne (fun z => by rw [z, S.fc] at e; cases e)]; exact S.sm b u e, by rw [upd_ne S.ne]; exact S.ord, by rw [upd_same]; simp, S.ls.upd S.ncm _, S.ne, S.nom, S.ncm, S.fo, S.fc, S.fa⟩
    · rintro σ H' ⟨cd, v3, as, rfl, S⟩
      have hz := szs t.length (Nat.le_refl _)
      rw [List.length_map, List.take_length] at S
      rw [List.take_length] at hz
      have hw := words_run t
      generalize hq : t.foldl spStep ([], []) = q at S hz hw
      have hal : as.length = q.1.length := S.ls.1
      refine ⟨_, rfl, cd, _, rfl, .inl (SqL.of S.cod), _, _, rfl, rfl, _, rfl, ite2 (fun e => ?_) (fun e => ?_)⟩
      · have e' : (0 : Int) < (((ivs q.2).length : Nat) : Int) := of_decide_eq_true e
        rw [List.length_map] at e'
        have hne : q.2 ≠ [] := fun z => by rw [z] at e'; simp at e'
        obtain ⟨p1, p2, p3, p4, p5⟩ := S.put
        refine ⟨_, rfl, .inl ⟨rfl, _, SqL.of S.ord⟩, _, rfl, o, _, _, rfl, rfl, S.ord, (by rw [List.length_map]; exact line_small (by omega)), _, rfl, ?_⟩
        exact hQ _ o (as ++ [cd]) p1 p2 (by rw [hw]; unfold spEnd; rw [if_neg hne]; exact p3)
      · have he : q.2 = [] := by
          cases z : q.2 with
          | nil => rfl
          | cons b l => exact absurd (decide_eq_true (show (0 : Int) < (((ivs q.2).length : Nat) : Int) by rw [z]; simp)) e
        refine ⟨_, rfl, ?_⟩
        exact hQ _ o as S.sm S.ord (by rw [hw]; unfold spEnd; rw [if_pos he]; exact S.ls)

/-! ### program_words -/
def spProg (K : PySem.W.Frag) (CN : Addr) : Sp := fun vs H Q E => ∃ (a : Addr) (t : List Nat), vs = [.ref a] ∧ SqL K H a (ivs t) ∧ t.length ≤ 16384 ∧
  ∀ H', Same H H' → (∀ (l : List Nat) (p : Addr), Rc38.allSome ((Rc38.words t).map Rc38.orderOf) = some l → H p = none → H' p = some (.lst (ivs l)) → Q (.ref p) H') ∧ (Rc38.allSome ((Rc38.words t).map Rc38.orderOf) = none → E (.ref CN) none H')
theorem scW : FnScope ["text", "codes"] ["text"] (defScope (top 18)) := ⟨rfl, rfl, rfl, by decide +kernel, rfl, by decide +kernel, by decide +kernel⟩
theorem ok_prog {f CN fO fP : Addr} {fd fdO fdP : FuncData} (F : Fun K "program_words" "program_words" (top 18) f fd) (T : TL K mg CN)
    (FO : Fun K "order_word" "order_word" (top 20) fO fdO) (bO : Binds K fdO ["codes"] []) (mO : mg "order_word" = some (.ref fO)) (GO : FnOk P w K mg base (CXx P w) 2 fO fdO ["codes"] (spOrd K CN))
    (FP : Fun K "split_orders" "split_orders" (top 19) fP fdP) (bP : Binds K fdP ["text"] []) (mP : mg "split_orders" = some (.ref fP)) : FnOk P w K mg base (CXx P w) 3 f fd ["text"] (spProg K CN) := by
  have GP : FnOk P w K mg base (CXx P w) 1 fP fdP ["text"] (spSplit K) := ok_split FP T
  refine F.okx scW (fun vs H Q E h => ?_) (fun cdv A outer s H vs Q E hr h => ?_)
  · obtain ⟨a, t, rfl, _⟩ := h
    rfl
  · obtain ⟨a, t, rfl, hS, hlen, h⟩ := h
    have hr1 : Room 1 _ := hr.mono (by decide)
    refine ⟨_, pss_one (ps_ret (pe_lcX (own := [("codes", 1)]) rfl scW.nd (pi_list (pe_call GP hr1 rfl mP FP.kp bP .nil passes0 (pa_cons (pv 0) pa_nil))) (blkOk_by (by show blkC [Str.ofString "text", Str.ofString "codes"] (defScope (top 18)) _ [(Str.ofString "codes", 1)] = true; decide +kernel))
      (fun _ _ _ _ _ => pg_name (i := 1) scW.nd rfl (Or.inl rfl)) (fun _ _ _ _ _ => pts_nil) xp_def rfl rfl (fun _ _ _ _ _ _ hx => pe_call GO hr rfl mO FO.kp bO .nil hx.passes (pa_cons (pv 1) pa_nil)))), ?_⟩
    refine ⟨_, rfl, a, t, rfl, hS, hlen, fun H1 p as s1 hp hL => ⟨p, rfl, ⟨_, SqL.of hp⟩, fun D hD => ?_⟩⟩
    have hwl : (Rc38.words t).length ≤ 16384 := Nat.le_trans (words_len t) hlen
    generalize hws : Rc38.words t = ws at hL hwl h
    have pD : p ≠ D := ne_of_none hp hD
    have aD : ∀ b, b ∈ as → b ≠ D := fun b hb z => hL.fresh hD (by rw [← z]; exact hb)
    refine lc_list (K := K) (a := p) (xs := as.map V.ref) (Qd := fun H => Q (.ref D) H) (fun i H2 => Same H H2 ∧ H2 p = some (.lst (as.map V.ref)) ∧ Lists H2 as ws ∧ ∃ acc, Rc38.allSome ((ws.take i).map Rc38.orderOf) = some acc ∧ H2 D = some (.lst (ivs acc)))
      ⟨Same.upd s1 hD _, by rw [upd_ne pD]; exact hp, hL.upd (fun z => aD D z rfl) _, [], rfl, upd_same⟩ (fun i H2 _ z => SqL.of z.2.1) ?_ ?_
    · rintro i x H2 hx ⟨s2, hp2, hL2, acc, ha, hD2⟩
      obtain ⟨b, hb, rfl⟩ : ∃ b, as[i]? = some b ∧ x = V.ref b := by
        rw [List.getElem?_map] at hx
        cases e : as[i]? with
        | none => rw [e] at hx; cases hx
        | some b => rw [e] at hx; exact ⟨b, rfl, (Option.some.inj hx).symm⟩
      have hi : i < as.length := (List.getElem?_eq_some_iff.mp hb).1
      obtain ⟨cs, hcs⟩ : ∃ cs, ws[i]? = some cs := ⟨_, List.getElem?_eq_getElem (by rw [← hL2.1]; exact hi)⟩
      have hal : acc.length ≤ i := by
        have := allSome_length ha
        rw [this, List.length_map, List.length_take]
        omega
      refine ⟨rfl, ?_⟩
      unfold tYes
      dsimp only
      rw [if_pos rfl]
      refine ⟨_, rfl, b, cs, rfl, SqL.of (hL2.2 i b cs hb hcs), fun H3 s3 => ⟨fun k hk => ⟨_, s3 _ _ hD2, (by rw [List.length_map]; exact line_small (by rw [hL.1] at hi; omega)), ?_⟩, fun hn => ?_⟩⟩
      · have aD2 : D ∉ as := fun z => aD D z rfl
        refine ⟨fun c u e => ?_, by rw [upd_ne pD]; exact s3 _ _ hp2, Lists.upd ⟨hL2.1, fun j c w h1 h2 => s3 _ _ (hL2.2 j c w h1 h2)⟩ aD2 _, acc ++ [k], ?_, ?_⟩
        · rw [upd_ne (fun z => by rw [z, s1.free hD] at e; cases e)]
          exact s3 _ _ (s2 c u e)
        · rw [take_snoc hcs, List.map_append, allSome_append, ha]
          show (match some acc, Rc38.allSome [Rc38.orderOf cs] with | some r, some t => some (r ++ t) | _, _ => none) = _
          rw [hk]
          rfl
        · rw [upd_same, ivs_append]
          rfl
      · exact (h H3 (s2.trans s3)).2 (allSome_none (i := i) (by rw [List.getElem?_map, hcs]; show some (Rc38.orderOf cs) = _; rw [hn]))
    · rintro H2 ⟨s2, hp2, hL2, acc, ha, hD2⟩
      rw [List.length_map, hL.1, List.take_length] at ha
      exact (h H2 s2).1 acc D ha (s1.free hD) hD2
end
end My
end

section
set_option Elab.async false
set_option linter.all false
set_option maxRecDepth 100000
set_option maxHeartbeats 4000000
/-! The machine's object and what may be put into it. -/
namespace My
open PySem PySem.Spec PyProof.Rows L2
abbrev sM (j : Nat) : Stmt := inClass (top 35) j
theorem ivs_set (l : List Nat) (i x : Nat) : ivs (l.set i x) = (ivs l).set i (iv x) := List.map_set ..
/-! ### frames -/
/-- what is not of L is as it was; nothing that was known is forgotten -/
structure Kp (H H' : Hp) (L : List Addr) : Prop where
  keep : ∀ b o, H b = some o → b ∉ L → H' b = some o
  free : ∀ b, H' b = none → H b = none
theorem Kp.refl (H : Hp) (L : List Addr) : Kp H H L := ⟨fun _ _ h _ => h, fun _ h => h⟩
theorem Kp.trans {H H1 H2 : Hp} {L : List Addr} (a : Kp H H1 L) (b : Kp H1 H2 L) : Kp H H2 L := ⟨fun c o h n => b.keep c o (a.keep c o h n) n, fun c h => a.free c (b.free c h)⟩
theorem Kp.mono {H H1 : Hp} {L M : List Addr} (a : Kp H H1 L) (h : ∀ b ∈ L, b ∈ M) : Kp H H1 M := ⟨fun c o e n => a.keep c o e fun z => n (h c z), a.free⟩
theorem upd_free {H : Hp} {b c : Addr} {o : HO} (h : upd H b o c = none) : c ≠ b ∧ H c = none := by
  by_cases e : c = b
  · rw [e, upd_same] at h
    cases h
  · rw [upd_ne e] at h
    exact ⟨e, h⟩
theorem Kp.new {H H1 : Hp} {L : List Addr} (a : Kp H H1 L) {T : Addr} (n : H1 T = none) (o : HO) : Kp H (upd H1 T o) L := ⟨fun c u e nn => by
  rw [upd_ne (ne_of_none (a.keep c u e nn) n)]
  exact a.keep c u e nn, fun c h => a.free c (upd_free h).2⟩
theorem Kp.put {H H1 : Hp} {L : List Addr} (a : Kp H H1 L) {b : Addr} (h : b ∈ L) (o : HO) : Kp H (upd H1 b o) L := ⟨fun c u e nn => by
  rw [upd_ne (fun z => nn (by rw [z]; exact h))]
  exact a.keep c u e nn, fun c h => a.free c (upd_free h).2⟩
theorem Kp.seq {K : PySem.W.Frag} {H H' : Hp} {L : List Addr} {a : Addr} {xs : List V} (k : Kp H H' L) (n : a ∉ L) (h : SqL K H a xs) : SqL K H' a xs := by
  rcases h with (h | ⟨o, h⟩) | h
  · exact .inl (.inl (k.keep _ _ h n))
  · exact .inl (.inr ⟨o, k.keep _ _ h n⟩)
  · exact .inr h
theorem Same.kp {H H' : Hp} (s : Same H H') (L : List Addr) : Kp H H' L := ⟨fun b o h _ => s b o h, fun b h => s.free h⟩
/-! ### the object -/
def accR (s : Rc38.Abs) : Int := Rc38.signed 71 s.acc
def mulR (s : Rc38.Abs) : Int := Rc38.signed 35 s.mult
def mf (sw bb tp pr : Addr) (s : Rc38.Abs) : List (Str × V) := [("short_words", .ref sw), ("bits_between", .ref bb), ("accumulator", .int (accR s)), ("multiplier", .int (mulR s)), ("next_place", iv s.next), ("tape", .ref tp), ("printed", .ref pr), ("last_printed", iv s.last), ("stopped", .bl s.stopped)]
structure Mach (C : Addr) (H : Hp) (m sw bb tp pr : Addr) (s : Rc38.Abs) : Prop where
  ob : ∃ dx, H m = some (.ins C dx (mf sw bb tp pr s))
  hsw : H sw = some (.lst (ivs (shorts s)))
  hbb : H bb = some (.lst (ivs (betws s)))
  htp : H tp = some (.lst (ivs s.tape))
  hpr : H pr = some (.lst (ivs s.out))
  nd : [sw, bb, tp, pr].Nodup
  good : Good s
theorem Mach.mono {C : Addr} {H H' : Hp} {m sw bb tp pr : Addr} {s : Rc38.Abs} (M : Mach C H m sw bb tp pr s) (k : ∀ b ∈ [m, sw, bb, tp, pr], ∀ o, H b = some o → H' b = some o) : Mach C H' m sw bb tp pr s := by
  obtain ⟨dx, h⟩ := M.ob
  exact ⟨⟨dx, k m (by simp) _ h⟩, k sw (by simp) _ M.hsw, k bb (by simp) _ M.hbb, k tp (by simp) _ M.htp, k pr (by simp) _ M.hpr, M.nd, M.good⟩
theorem Mach.new {C : Addr} {H : Hp} {m sw bb tp pr : Addr} {s : Rc38.Abs} (M : Mach C H m sw bb tp pr s) {T : Addr} (n : H T = none) (o : HO) : Mach C (upd H T o) m sw bb tp pr s :=
  M.mono fun b _ u e => by rw [upd_ne (ne_of_none e n)]; exact e
theorem Mach.mne {C : Addr} {H : Hp} {m sw bb tp pr : Addr} {s : Rc38.Abs} (M : Mach C H m sw bb tp pr s) {b : Addr} {xs : List V} (h : H b = some (.lst xs)) : b ≠ m := by
  obtain ⟨dx, hm⟩ := M.ob
  exact ne_of h hm (by intro z; cases z)
/-- the short words are others -/
theorem Mach.setSw {C : Addr} {H : Hp} {m sw bb tp pr : Addr} {s : Rc38.Abs} (M : Mach C H m sw bb tp pr s) {st : List Nat} (g : Good { s with store := st }) (hb : betws { s with store := st } = betws s) :
    Mach C (upd H sw (.lst (ivs (shorts { s with store := st })))) m sw bb tp pr { s with store := st } := by
  have nd := M.nd
  simp only [List.nodup_cons, List.mem_cons, List.not_mem_nil, or_false, not_or] at nd
  obtain ⟨dx, hm⟩ := M.ob
  refine ⟨⟨dx, ?_⟩, upd_same, ?_, ?_, ?_, M.nd, g⟩
  · rw [upd_ne (Ne.symm (M.mne M.hsw))]
    exact hm
  · rw [upd_ne (Ne.symm nd.1.1), hb]
    exact M.hbb
  · rw [upd_ne (Ne.symm nd.1.2.1)]
    exact M.htp
  · rw [upd_ne (Ne.symm nd.1.2.2)]
    exact M.hpr
/-- what the top has bound, as machine.py reads it -/
structure TM (K : PySem.W.Frag) (mg : Str → Option Value) (C : Addr) : Prop where
  cl : Cls K C
  nSw : NoAttr K C "short_words"
  nBb : NoAttr K C "bits_between"
  nAc : NoAttr K C "accumulator"
  nMu : NoAttr K C "multiplier"
  nNx : NoAttr K C "next_place"
  nTp : NoAttr K C "tape"
  nPr : NoAttr K C "printed"
  nLp : NoAttr K C "last_printed"
  nSt : NoAttr K C "stopped"
  ref : GI mg "REFUSED" (-1)
  pla : GI mg "PLACES" 1024
  pai : GI mg "PAIRS" 512
  wbe : GI mg "WORDS_BELOW" 131072
  lte : GI mg "LONGEST_TEXT" 16384
  lpi : GI mg "LONGEST_PIECE" 4096
  tsb : GI mg "TAPE_SIGNS_BELOW" 32
  lta : GI mg "LONGEST_TAPE" 65536
  max : mg "max" = none
section
variable {P : Program} {w : World} {K : PySem.W.Frag} {mg : Str → Option Value} {base : Heap}
/-! ### readings that come again -/
theorem rd_in {σ : L2.St} {H : Hp} {i : Nat} {lo hi x : Int} {R : Bool → Hp → Prop} (hv : σ[i]? = some (some (.int x))) (h : R (decide (lo ≤ x ∧ x ≤ hi)) H) :
    tTest (tChain (rI0 fun i j => .bl (decide (i ≤ j))) (rI0 fun i j => .bl (decide (i ≤ j))) (tC (.int lo)) (tVar i) (tC (.int hi))) σ H R := by
  refine ⟨_, hv, _, _, rfl, rfl, _, rfl, ite2 (fun e1 => ⟨_, _, rfl, rfl, _, rfl, ?_⟩) (fun e1 => ⟨_, rfl, ?_⟩)⟩
  · have h1 : lo ≤ x := of_decide_eq_true e1
    have e : decide (x ≤ hi) = decide (lo ≤ x ∧ x ≤ hi) := by
      by_cases h2 : x ≤ hi
      · rw [decide_eq_true h2, decide_eq_true ⟨h1, h2⟩]
      · rw [decide_eq_false h2, decide_eq_false fun z => h2 z.2]
    rw [e]
    exact h
  · have e : false = decide (lo ≤ x ∧ x ≤ hi) := (decide_eq_false fun z => e1 (decide_eq_true z.1)).symm
    rw [e]
    exact h
theorem rd_lt {σ : L2.St} {H : Hp} {i : Nat} {lo hi x : Int} {R : Bool → Hp → Prop} (hv : σ[i]? = some (some (.int x))) (h : R (decide (lo ≤ x ∧ x < hi)) H) :
    tTest (tChain (rI0 fun i j => .bl (decide (i ≤ j))) (rI0 fun i j => .bl (decide (i < j))) (tC (.int lo)) (tVar i) (tC (.int hi))) σ H R := by
  refine ⟨_, hv, _, _, rfl, rfl, _, rfl, ite2 (fun e1 => ⟨_, _, rfl, rfl, _, rfl, ?_⟩) (fun e1 => ⟨_, rfl, ?_⟩)⟩
  · have h1 : lo ≤ x := of_decide_eq_true e1
    have e : decide (x < hi) = decide (lo ≤ x ∧ x < hi) := by
      by_cases h2 : x < hi
      · rw [decide_eq_true h2, decide_eq_true ⟨h1, h2⟩]
      · rw [decide_eq_false h2, decide_eq_false fun z => h2 z.2]
    rw [e]
    exact h
  · have e : false = decide (lo ≤ x ∧ x < hi) := (decide_eq_false fun z => e1 (decide_eq_true z.1)).symm
    rw [e]
    exact h
theorem iteN {c A B : Prop} [Decidable c] (h1 : ¬ c → A) (h2 : c → B) : if (!decide c) = true then A else B := by
  by_cases h : c
  · rw [decide_eq_true h]
    exact iteF (h2 h)
  · rw [decide_eq_false h]
    exact iteT (h1 h)
/-! ### have_places, all_below -/
def spHave : Sp := fun vs H Q _ => ∃ a n : Int, vs = [.int a, .int n] ∧ Q (.bl (decide (0 ≤ a ∧ a ≤ 1024 ∧ a + n ≤ 1024))) H
theorem scHv : FnScope ["at", "many"] ["at", "many"] (defScope (top 36)) := ⟨rfl, rfl, rfl, by decide +kernel, rfl, by decide +kernel, by decide +kernel⟩
theorem ok_have {f C : Addr} {fd : FuncData} (F : Fun K "have_places" "have_places" (top 36) f fd) (T : TM K mg C) : FnOk P w K mg base (CXx P w) 1 f fd ["at", "many"] spHave := by
  refine F.okx scHv (fun vs H Q E h => ?_) (fun cdv A outer s H vs Q E hr h => ?_)
  · obtain ⟨a, n, rfl, _⟩ := h
    rfl
  · obtain ⟨a, n, rfl, h⟩ := h
    refine ⟨_, pss_one (ps_ret (pe_and (pe_chain op_le op_le pe_int (pv 0) (pe_gi T.pla)) (pe_one (pe_cmpR op_le (pe_op op_add (pv 0) (pv 1)) (pe_gi T.pla) (nomark _))))), ?_⟩
    have fin : ∀ c : Bool, c = decide (0 ≤ a ∧ a ≤ 1024 ∧ a + n ≤ 1024) → Q (.bl c) H := fun c e => by rw [e]; exact h
    refine ⟨_, rfl, _, _, rfl, rfl, _, rfl, ite2 (fun e1 => ⟨_, _, rfl, rfl, _, rfl, ite2 (fun e2 => ?_) (fun e2 => ?_)⟩) (fun e1 => ⟨_, rfl, iteF ?_⟩)⟩
    · have h1 : (0 : Int) ≤ a := of_decide_eq_true e1
      have h2 : a ≤ 1024 := of_decide_eq_true e2
      refine ⟨_, rfl, _, rfl, _, _, rfl, rfl, _, _, rfl, rfl, fin _ ?_⟩
      by_cases h3 : a + n ≤ 1024
      · rw [decide_eq_true h3, decide_eq_true ⟨h1, h2, h3⟩]
      · rw [decide_eq_false h3, decide_eq_false fun z => h3 z.2.2]
    · exact fin _ (decide_eq_false fun z => e2 (decide_eq_true z.2.1)).symm
    · exact fin _ (decide_eq_false fun z => e1 (decide_eq_true z.1)).symm
def spBelow (K : PySem.W.Frag) : Sp := fun vs H Q _ => ∃ (a : Addr) (l : List Nat) (lim : Nat), vs = [.ref a, iv lim] ∧ SqL K H a (ivs l) ∧ 0 < lim ∧ Q (.bl (l.all fun x => decide (x < lim))) H
theorem scBe : FnScope ["numbers", "limit"] ["numbers", "limit"] (defScope (top 37)) := ⟨rfl, rfl, rfl, by decide +kernel, rfl, by decide +kernel, by decide +kernel⟩
theorem ok_below {f C : Addr} {fd : FuncData} (F : Fun K "all_below" "all_below" (top 37) f fd) (T : TM K mg C) : FnOk P w K mg base (CXx P w) 1 f fd ["numbers", "limit"] (spBelow K) := by
  refine F.okx scBe (fun vs H Q E h => ?_) (fun cdv A outer s H vs Q E hr h => ?_)
  · obtain ⟨a, l, lim, rfl, _⟩ := h
    rfl
  · obtain ⟨a, l, lim, rfl, hS, hp, h⟩ := h
    refine ⟨_, pss_one (ps_ret (pe_cmpR op_lt (pe_maxD rfl rfl T.max (pa_cons (pv 0) pa_nil) pe_int) (pv 1) (nomark _))), ?_⟩
    have em : ivs l = (l.map fun x : Nat => (x : Int)).map V.int := by simp
    have fin : ∀ c : Bool, c = (l.all fun x => decide (x < lim)) → Q (.bl c) H := fun c e => by rw [e]; exact h
    refine ⟨_, rfl, a, l.map fun x : Nat => (x : Int), rfl, by rw [← em]; exact hS, fun e0 => ?_, fun m hm hy => ?_⟩
    · have el : l = [] := List.map_eq_nil_iff.mp e0
      subst el
      exact ⟨_, rfl, _, _, rfl, rfl, fin _ (by show decide ((0 : Int) < (lim : Int)) = true; exact decide_eq_true (by omega))⟩
    · obtain ⟨x, hx, rfl⟩ := List.mem_map.mp hm
      refine ⟨_, rfl, _, _, rfl, rfl, fin _ ?_⟩
      by_cases hlt : x < lim
      · rw [decide_eq_true (show (x : Int) < (lim : Int) by omega)]
        refine (List.all_eq_true.mpr fun y hy' => ?_).symm
        have := hy y (List.mem_map.mpr ⟨y, hy', rfl⟩)
        exact decide_eq_true (by omega)
      · rw [decide_eq_false (show ¬ (x : Int) < (lim : Int) by omega)]
        symm
        rw [Bool.eq_false_iff]
        intro z
        exact hlt (of_decide_eq_true (List.all_eq_true.mp z x hx))
/-! ### put_short_words -/
def spPutS (K : PySem.W.Frag) (C : Addr) : Sp := fun vs H Q _ => ∃ (m sw bb tp pr a : Addr) (s : Rc38.Abs) (n : Nat) (l : List Nat), vs = [.ref m, iv n, .ref a] ∧ Mach C H m sw bb tp pr s ∧ SqL K H a (ivs l) ∧ a ≠ sw ∧ n + l.length ≤ 1024 ∧ (∀ x ∈ l, x < 131072) ∧
  ∀ H', Mach C H' m sw bb tp pr (Rc38.puts s n l) → Kp H H' [sw] → Q .non H'
theorem scPS : FnScope ["self", "at", "words", "offset", "word"] ["self", "at", "words"] (defScope (sM 4)) := ⟨rfl, rfl, rfl, by decide +kernel, rfl, by decide +kernel, by decide +kernel⟩
theorem ok_putS {f C : Addr} {fd : FuncData} (F : Fun K "put_short_words" "Machine.put_short_words" (sM 4) f fd) (T : TM K mg C) (enu : mg "enumerate" = none) : FnOk P w K mg base (CXx P w) 1 f fd ["self", "at", "words"] (spPutS K C) := by
  refine F.okx scPS (fun vs H Q E h => ?_) (fun cdv A outer s0 H vs Q E hr h => ?_)
  · obtain ⟨m, sw, bb, tp, pr, a, s, n, l, rfl, _⟩ := h
    rfl
  · obtain ⟨m, sw, bb, tp, pr, a, s, n, l, rfl, M, hS, hne, hlen, hlt, k⟩ := h
    refine ⟨_, pss_one (ps_for own_def rfl (pi_enum rfl enu (pa_cons (pv 2) pa_nil)) (pg_tup rfl (pgs_cons (pg_name (i := 3) scPS.nd rfl (Or.inl rfl)) (pgs_cons (pg_name (i := 4) scPS.nd rfl (Or.inl rfl)) pgs_nil)))
      (pss_one (ps_asg (pv 4) (pg_sub (pe_fld (pv 0) rfl) (pe_op op_add (pv 1) (pv 3)) set_list)))), ?_⟩
    refine ⟨_, rfl, a, _, rfl, hS, for_enum (K := K) (a := a) (xs := ivs l) (fun i σ H' => ∃ v3 v4, σ = [some (.ref m), some (iv n), some (.ref a), v3, v4] ∧ Mach C H' m sw bb tp pr (Rc38.puts s n (l.take i)) ∧ Kp H H' [sw])
      ⟨none, none, rfl, by rw [puts_zero]; exact M, Kp.refl H _⟩ (fun i σ H' _ ⟨_, _, _, _, kp⟩ => kp.seq (by simpa using hne) hS) ?_ ?_⟩
    · rintro i y Tu σ H1 hi ⟨v3, v4, rfl, M1, k1⟩ hT
      obtain ⟨x, hx, rfl⟩ := ivs_get hi
      have hil : i < l.length := (List.getElem?_eq_some_iff.mp hx).1
      have hx13 := hlt x (List.mem_of_getElem? hx)
      refine ⟨Tu, _, rfl, SqT.of upd_same, rfl, _, _, rfl, _, _, rfl, rfl, ?_⟩
      have M2 := M1.new hT (.tup [.int (i : Nat), iv x])
      have k2 := k1.new hT (.tup [.int (i : Nat), iv x])
      obtain ⟨dx, hm2⟩ := M2.ob
      have hg := M2.good
      have hsz : n + i < 1024 := by omega
      refine ⟨_, rfl, _, rfl, m, C, dx, _, _, rfl, hm2, T.cl, T.nSw, rfl, _, rfl, _, rfl, _, _, rfl, rfl, sw, _, _, n + i, rfl, rfl, M2.hsw, ?_, ?_⟩
      · rw [List.length_map, shorts_length]
        show ixN 1024 ((n : Int) + (i : Int)) = some (n + i)
        unfold ixN
        rw [if_pos (by omega), if_pos (by omega)]
        congr 1
      · have es : ivs ((shorts (Rc38.puts s n (l.take i))).set (n + i) x) = (ivs (shorts (Rc38.puts s n (l.take i)))).set (n + i) (iv x) := ivs_set _ _ _
        have eq := puts_step s n hx
        have e1 := shorts_putShort hg hsz x
        rw [Nat.mod_eq_of_lt hx13, ← eq] at e1
        have e2 := betws_putShort hg hsz x
        rw [← eq] at e2
        obtain ⟨st, hst⟩ : ∃ st, Rc38.puts s n (l.take (i + 1)) = { (Rc38.puts s n (l.take i)) with store := st } := ⟨_, eq⟩
        have M3 := M2.setSw (st := st) (by rw [← hst, eq]; exact good_putShort hg hsz x) (by rw [← hst]; exact e2)
        rw [← hst, e1, es] at M3
        exact ⟨_, _, rfl, M3, k2.put (by simp) _⟩
    · rintro σ H1 ⟨v3, v4, rfl, M1, k1⟩
      rw [List.length_map, List.take_length] at M1
      exact k H1 M1 k1

/-! ### the calls: what each makes of the machine -/
/-- behind a call: the machine stands for s', all else is as it was, its lists are its own or new -/
def MPost (C : Addr) (H : Hp) (m : Addr) (L : List Addr) (s' : Rc38.Abs) (Q : Hp → Prop) : Prop :=
  ∀ (H' : Hp) (sw bb tp pr : Addr), Mach C H' m sw bb tp pr s' → Kp H H' (m :: L) → (∀ b ∈ [sw, bb, tp, pr], b ∈ L ∨ H b = none) → Q H'
theorem MPost.stay {C : Addr} {H H' : Hp} {m sw bb tp pr : Addr} {s : Rc38.Abs} {Q : Hp → Prop} (h : MPost C H m [sw, bb, tp, pr] s Q) (M : Mach C H' m sw bb tp pr s) (k : Kp H H' (m :: [sw, bb, tp, pr])) : Q H' :=
  h H' sw bb tp pr M k fun b hb => .inl hb
theorem does_words (s : Rc38.Abs) (a n : Int) (l : List Nat) : Rc38.does s (.words a l n) = if n < 0 ∨ 1024 < n ∨ a < 0 ∨ 1024 < a + n ∨ (l.all fun x => decide (x < 131072)) = false then (s, Rc38.refused) else (Rc38.puts s a.toNat l, { value := 0 }) := rfl
def spPW (K : PySem.W.Frag) (C : Addr) : Sp := fun vs H Q _ => ∃ (m sw bb tp pr p : Addr) (s : Rc38.Abs) (a n : Int) (l : List Nat), vs = [.ref m, .int a, .int n, .ref p] ∧ Mach C H m sw bb tp pr s ∧ SqL K H p (ivs l) ∧ p ≠ sw ∧ ((l.length : Int) = if 1 ≤ n ∧ n ≤ 1024 then n else 0) ∧
  MPost C H m [sw, bb, tp, pr] (Rc38.does s (.words a l n)).1 fun H' => Q (.int (Rc38.does s (.words a l n)).2.value) H'
theorem scPW : FnScope ["self", "at", "n", "words"] ["self", "at", "n", "words"] (defScope (sM 2)) := ⟨rfl, rfl, rfl, by decide +kernel, rfl, by decide +kernel, by decide +kernel⟩
theorem ok_putW {f C fH fB fP : Addr} {fd fdH fdB fdP : FuncData} (F : Fun K "put_words" "Machine.put_words" (sM 2) f fd) (T : TM K mg C) (enu : mg "enumerate" = none)
    (FH : Fun K "have_places" "have_places" (top 36) fH fdH) (bH : Binds K fdH ["at", "many"] []) (mH : mg "have_places" = some (.ref fH))
    (FB : Fun K "all_below" "all_below" (top 37) fB fdB) (bB : Binds K fdB ["numbers", "limit"] []) (mB : mg "all_below" = some (.ref fB))
    (FP : Fun K "put_short_words" "Machine.put_short_words" (sM 4) fP fdP) (bP : Binds K fdP ["self", "at", "words"] []) (mP : Meth K C "put_short_words" fP) : FnOk P w K mg base (CXx P w) 2 f fd ["self", "at", "n", "words"] (spPW K C) := by
  have GH : FnOk P w K mg base (CXx P w) 1 fH fdH ["at", "many"] spHave := ok_have FH T
  have GB : FnOk P w K mg base (CXx P w) 1 fB fdB ["numbers", "limit"] (spBelow K) := ok_below FB T
  have GP : FnOk P w K mg base (CXx P w) 1 fP fdP ["self", "at", "words"] (spPutS K C) := ok_putS FP T enu
  refine F.okx scPW (fun vs H Q E h => ?_) (fun cdv A outer s0 H vs Q E hr h => ?_)
  · obtain ⟨m, sw, bb, tp, pr, p, s, a, n, l, rfl, _⟩ := h
    rfl
  · obtain ⟨m, sw, bb, tp, pr, p, s, a, n, l, rfl, M, hS, hne, hlen, k⟩ := h
    rw [does_words] at k
    refine ⟨_, pss_cons (ps_if (PW.pt (pw_or (pt_not (pt_chain op_le op_le pe_int (pv 2) (pe_gi T.pla))) (pw_or1 (pt_not (pt_val (pe_call GH hr rfl mH FH.kp bH .nil passes0 (pa_cons (pv 1) (pa_cons (pv 2) pa_nil)))))))) (pss_one (ps_ret (pe_gi T.ref))) pss_nil)
      (pss_cons (ps_if (pt_not (pt_val (pe_call GB hr rfl mB FB.kp bB .nil passes0 (pa_cons (pv 3) (pa_cons (pe_gi T.wbe) pa_nil))))) (pss_one (ps_ret (pe_gi T.ref))) pss_nil)
      (pss_cons (ps_expr (pe_meth (pv 0) T.cl mP GP hr bP .nil passes0 (pa_cons (pv 1) (pa_cons (pv 3) pa_nil))))
      (pss_one (ps_ret pe_int)))), ?_⟩
    -- a refusal
    have no : (n < 0 ∨ 1024 < n ∨ a < 0 ∨ 1024 < a + n ∨ (l.all fun x => decide (x < 131072)) = false) → Q (.int (-1)) H := fun z => by
      rw [if_pos z] at k
      exact k.stay M (Kp.refl H _)
    refine rd_in rfl (iteN (fun h1 => iteT (no (by omega))) (fun h1 => ?_))
    refine ⟨_, rfl, _, rfl, a, n, rfl, _, rfl, iteN (fun h2 => no (by omega)) (fun h2 => ?_)⟩
    refine ⟨_, rfl, p, l, 131072, rfl, hS, by decide, _, rfl, ?_⟩
    cases hall : (l.all fun x => decide (x < 131072)) with
    | false => exact iteT (no (.inr (.inr (.inr (.inr hall)))))
    | true =>
      have yes : ¬ (n < 0 ∨ 1024 < n ∨ a < 0 ∨ 1024 < a + n ∨ (l.all fun x => decide (x < 131072)) = false) := by
        rw [hall]
        simp
        omega
      rw [if_neg yes] at k
      obtain ⟨dx, hm⟩ := M.ob
      have ea : iv a.toNat = V.int a := by
        show V.int ((a.toNat : Nat) : Int) = V.int a
        rw [Int.toNat_of_nonneg h2.1]
      refine iteF ⟨_, rfl, m, dx, _, rfl, hm, rfl, _, rfl, _, rfl, m, sw, bb, tp, pr, p, s, a.toNat, l, ?_, M, hS, hne, ?_, fun x hx => of_decide_eq_true (List.all_eq_true.mp hall x hx), fun H' M' k' => ?_⟩
      · show [V.ref m, V.int a, V.ref p] = [V.ref m, iv a.toNat, V.ref p]
        rw [ea]
      · have : (l.length : Int) ≤ n := by
          rw [hlen]
          split <;> omega
        omega
      · exact k.stay M' (k'.mono (by simp))

/-! ### put_orders -/
theorem allSome_all {p : Nat → Prop} : ∀ {l : List (Option Nat)} {r : List Nat}, Rc38.allSome l = some r → (∀ x, some x ∈ l → p x) → ∀ x ∈ r, p x
  | [], r, h, _ => by
    cases h
    exact fun x hx => absurd hx (by simp)
  | none :: _, r, h, _ => by cases h
  | some a :: l, r, h, hp => by
    have h : (Rc38.allSome l).map (fun q => a :: q) = some r := h
    cases e : Rc38.allSome l with
    | none => rw [e] at h; cases h
    | some q =>
      rw [e] at h
      cases h
      intro x hx
      rcases List.mem_cons.mp hx with z | z
      · rw [z]
        exact hp a (List.mem_cons_self ..)
      · exact allSome_all e (fun y hy => hp y (List.mem_cons_of_mem _ hy)) x z
theorem does_orders (s : Rc38.Abs) (a n : Int) (t : List Nat) : Rc38.does s (.orders a t n) = if n < 0 ∨ 16384 < n ∨ a < 0 then (s, Rc38.refused) else match Rc38.allSome ((Rc38.words t).map Rc38.orderOf) with
    | none => (s, Rc38.refused)
    | some l => if 1024 < a + (l.length : Nat) then (s, Rc38.refused) else (Rc38.puts s a.toNat l, { value := (l.length : Nat) }) := rfl
def spPO (K : PySem.W.Frag) (C : Addr) : Sp := fun vs H Q _ => ∃ (m sw bb tp pr p : Addr) (s : Rc38.Abs) (a n : Int) (t : List Nat), vs = [.ref m, .int a, .int n, .ref p] ∧ Mach C H m sw bb tp pr s ∧ SqL K H p (ivs t) ∧ t.length ≤ 16384 ∧
  MPost C H m [sw, bb, tp, pr] (Rc38.does s (.orders a t n)).1 fun H' => Q (.int (Rc38.does s (.orders a t n)).2.value) H'
theorem scPO : FnScope ["self", "at", "n", "text", "orders"] ["self", "at", "n", "text"] (defScope (sM 3)) := ⟨rfl, rfl, rfl, by decide +kernel, rfl, by decide +kernel, by decide +kernel⟩
theorem ok_putO {f C CN fH fP fW : Addr} {fd fdH fdP fdW : FuncData} (F : Fun K "put_orders" "Machine.put_orders" (sM 3) f fd) (T : TM K mg C) (TL : TL K mg CN)
    (FH : Fun K "have_places" "have_places" (top 36) fH fdH) (bH : Binds K fdH ["at", "many"] []) (mH : mg "have_places" = some (.ref fH))
    (FW : Fun K "program_words" "program_words" (top 18) fW fdW) (bW : Binds K fdW ["text"] []) (mW : mg "program_words" = some (.ref fW)) (GW : FnOk P w K mg base (CXx P w) 3 fW fdW ["text"] (spProg K CN))
    (FP : Fun K "put_short_words" "Machine.put_short_words" (sM 4) fP fdP) (bP : Binds K fdP ["self", "at", "words"] []) (mP : Meth K C "put_short_words" fP) : FnOk P w K mg base (CXx P w) 4 f fd ["self", "at", "n", "text"] (spPO K C) := by
  have GH : FnOk P w K mg base (CXx P w) 1 fH fdH ["at", "many"] spHave := ok_have FH T
  have GP : FnOk P w K mg base (CXx P w) 1 fP fdP ["self", "at", "words"] (spPutS K C) := ok_putS FP T TL.enu
  refine F.okx scPO (fun vs H Q E h => ?_) (fun cdv A outer s0 H vs Q E hr h => ?_)
  · obtain ⟨m, sw, bb, tp, pr, p, s, a, n, t, rfl, _⟩ := h
    rfl
  · obtain ⟨m, sw, bb, tp, pr, p, s, a, n, t, rfl, M, hS, hlen, k⟩ := h
    have hr1 : Room 1 _ := hr.mono (by decide)
    refine ⟨_, pss_cons (ps_if (pt_not (pt_chain op_le op_le pe_int (pv 2) (pe_gi T.lte))) (pss_one (ps_ret (pe_gi T.ref))) pss_nil)
      (pss_cons (ps_try rfl rfl rfl TL.np TL.exc rfl (fun Wt pn E' xp => pss_one (ps_set (i := 4) scPO.nd rfl (Or.inl rfl) (pe_call GW hr rfl mW FW.kp bW .nil xp.xp0.passes (pa_cons (pv 3) pa_nil)))) (fun e => pss_one (ps_ret (pe_gi T.ref))))
      (pss_cons (ps_if (pt_not (pt_val (pe_call GH hr1 rfl mH FH.kp bH .nil passes0 (pa_cons (pv 1) (pa_cons (pe_callB call_len_seq rfl TL.len PySem.boot_len (pa_cons (pv 4) pa_nil)) pa_nil))))) (pss_one (ps_ret (pe_gi T.ref))) pss_nil)
      (pss_cons (ps_expr (pe_meth (pv 0) T.cl mP GP hr1 bP .nil passes0 (pa_cons (pv 1) (pa_cons (pv 4) pa_nil))))
      (pss_one (ps_ret (pe_callB call_len_seq rfl TL.len PySem.boot_len (pa_cons (pv 4) pa_nil))))))), ?_⟩
    rw [does_orders] at k
    refine rd_in rfl (iteN (fun h1 => ?_) (fun h1 => ?_))
    · rw [if_pos (by omega)] at k
      exact k.stay M (Kp.refl H _)
    · refine ⟨_, rfl, p, t, rfl, hS, hlen, fun H1 s1 => ⟨fun l q hl hqn hq => ?_, fun hn => ⟨rfl, ?_⟩⟩⟩
      · rw [hl] at k
        have M1 : Mach C H1 m sw bb tp pr s := M.mono fun b _ o e => s1 b o e
        refine ⟨_, rfl, _, rfl, q, _, rfl, .inl (SqL.of hq), a, _, rfl, _, rfl, iteN (fun h2 => ?_) (fun h2 => ?_)⟩
        · rw [List.length_map] at h2
          have : (if n < 0 ∨ 16384 < n ∨ a < 0 then (s, Rc38.refused) else match some l with
            | none => (s, Rc38.refused)
            | some l => if 1024 < a + (l.length : Nat) then (s, Rc38.refused) else (Rc38.puts s a.toNat l, { value := (l.length : Nat) })) = (s, Rc38.refused) := by
            by_cases z : n < 0 ∨ 16384 < n ∨ a < 0
            · rw [if_pos z]
            · rw [if_neg z]
              show (if 1024 < a + (l.length : Nat) then (s, Rc38.refused) else _) = _
              rw [if_pos (by omega)]
          rw [this] at k
          exact k.stay M1 (Same.kp s1 _)
        · rw [List.length_map] at h2
          rw [if_neg (by omega)] at k
          have k : MPost C H m [sw, bb, tp, pr] (if 1024 < a + (l.length : Nat) then (s, Rc38.refused) else (Rc38.puts s a.toNat l, { value := (l.length : Nat) })).1 fun H' => Q (.int (if 1024 < a + (l.length : Nat) then (s, Rc38.refused) else (Rc38.puts s a.toNat l, ({ value := (l.length : Nat) } : Rc38.Ans))).2.value) H' := k
          rw [if_neg (by omega)] at k
          obtain ⟨dx, hm⟩ := M1.ob
          have ea : iv a.toNat = V.int a := by
            show V.int ((a.toNat : Nat) : Int) = V.int a
            rw [Int.toNat_of_nonneg h2.1]
          have hqsw : q ≠ sw := fun z => by
            rw [z, M.hsw] at hqn
            cases hqn
          refine ⟨_, rfl, m, dx, _, rfl, hm, rfl, _, rfl, _, rfl, m, sw, bb, tp, pr, q, s, a.toNat, l, ?_, M1, SqL.of hq, hqsw, by omega, allSome_all hl (fun x hx => ?_), fun H' M' k' => ?_⟩
          · show [V.ref m, V.int a, V.ref q] = [V.ref m, iv a.toNat, V.ref q]
            rw [ea]
          · obtain ⟨cs, _, e⟩ := List.mem_map.mp hx
            exact order_lt e
          · refine ⟨_, rfl, q, _, rfl, .inl (SqL.of (k'.keep _ _ hq (by simpa using hqsw))), ?_⟩
            rw [List.length_map]
            exact k.stay M' ((Same.kp s1 _).trans (k'.mono (by simp)))
      · rw [hn] at k
        have : (if n < 0 ∨ 16384 < n ∨ a < 0 then (s, Rc38.refused) else match (none : Option (List Nat)) with
            | none => (s, Rc38.refused)
            | some l => if 1024 < a + (l.length : Nat) then (s, Rc38.refused) else (Rc38.puts s a.toNat l, { value := (l.length : Nat) })) = (s, Rc38.refused) := by
          split <;> rfl
        rw [this] at k
        exact k.stay (M.mono fun b _ o e => s1 b o e) (Same.kp s1 _)
/-! ### lay_tape -/
theorem does_tape (s : Rc38.Abs) (n : Int) (l : List Nat) : Rc38.does s (.tape l n) = if n < 0 ∨ 4096 < n ∨ (l.all fun x => decide (x < 32)) = false ∨ 65536 < s.tape.length + l.length then (s, Rc38.refused) else ({ s with tape := s.tape ++ l }, { value := ((s.tape.length + l.length : Nat) : Int) }) := rfl
def spLT (C : Addr) : Sp := fun vs H Q _ => ∃ (m sw bb tp pr p : Addr) (s : Rc38.Abs) (n : Int) (l : List Nat), vs = [.ref m, .int n, .ref p] ∧ Mach C H m sw bb tp pr s ∧ H p = some (.lst (ivs l)) ∧ p ≠ tp ∧ ((l.length : Int) = if 1 ≤ n ∧ n ≤ 4096 then n else 0) ∧
  MPost C H m [sw, bb, tp, pr] (Rc38.does s (.tape l n)).1 fun H' => Q (.int (Rc38.does s (.tape l n)).2.value) H'
theorem scLT : FnScope ["self", "n", "signs"] ["self", "n", "signs"] (defScope (sM 5)) := ⟨rfl, rfl, rfl, by decide +kernel, rfl, by decide +kernel, by decide +kernel⟩
theorem Mach.setTp {C : Addr} {H : Hp} {m sw bb tp pr : Addr} {s : Rc38.Abs} (M : Mach C H m sw bb tp pr s) (l : List Nat) (g : ∀ x ∈ l, x < 32) (gl : l.length ≤ 65536) :
    Mach C (upd H tp (.lst (ivs l))) m sw bb tp pr { s with tape := l } := by
  have nd := M.nd
  simp only [List.nodup_cons, List.mem_cons, List.not_mem_nil, or_false, not_or] at nd
  obtain ⟨dx, hm⟩ := M.ob
  refine ⟨⟨dx, ?_⟩, ?_, ?_, upd_same, ?_, M.nd, ⟨M.good.len, M.good.st, M.good.acc, M.good.mult, M.good.next, g, M.good.out, M.good.last, gl, M.good.outl⟩⟩
  · rw [upd_ne (Ne.symm (M.mne M.htp))]
    exact hm
  · rw [upd_ne nd.1.2.1]
    exact M.hsw
  · rw [upd_ne nd.2.1.1]
    exact M.hbb
  · rw [upd_ne (Ne.symm nd.2.2.1)]
    exact M.hpr
theorem ok_tape {f C fB : Addr} {fd fdB : FuncData} (F : Fun K "lay_tape" "Machine.lay_tape" (sM 5) f fd) (T : TM K mg C) (len : mg "len" = none)
    (FB : Fun K "all_below" "all_below" (top 37) fB fdB) (bB : Binds K fdB ["numbers", "limit"] []) (mB : mg "all_below" = some (.ref fB)) : FnOk P w K mg base (CXx P w) 2 f fd ["self", "n", "signs"] (spLT C) := by
  have GB : FnOk P w K mg base (CXx P w) 1 fB fdB ["numbers", "limit"] (spBelow K) := ok_below FB T
  refine F.okx scLT (fun vs H Q E h => ?_) (fun cdv A outer s0 H vs Q E hr h => ?_)
  · obtain ⟨m, sw, bb, tp, pr, p, s, n, l, rfl, _⟩ := h
    rfl
  · obtain ⟨m, sw, bb, tp, pr, p, s, n, l, rfl, M, hp, hne, hlen, k⟩ := h
    rw [does_tape] at k
    refine ⟨_, pss_cons (ps_if (PW.pt (pw_or (pt_not (pt_chain op_le op_le pe_int (pv 1) (pe_gi T.lpi))) (pw_or1 (pt_not (pt_val (pe_call GB hr rfl mB FB.kp bB .nil passes0 (pa_cons (pv 2) (pa_cons (pe_gi T.tsb) pa_nil)))))))) (pss_one (ps_ret (pe_gi T.ref))) pss_nil)
      (pss_cons (ps_if (pt_cmpR op_gt (pe_op op_add (pe_callB call_len_seq rfl len PySem.boot_len (pa_cons (pe_fld (pv 0) rfl) pa_nil)) (pv 1)) (pe_gi T.lta) (nomark _)) (pss_one (ps_ret (pe_gi T.ref))) pss_nil)
      (pss_cons (ps_expr (pe_bm PySem.F.plainAttrs_list PySem.F.slot_list_extend PySem.F.type_list_extend mt_extend (pe_fld (pv 0) rfl) (pa_cons (pv 2) pa_nil)))
      (pss_one (ps_ret (pe_callB call_len_seq rfl len PySem.boot_len (pa_cons (pe_fld (pv 0) rfl) pa_nil)))))), ?_⟩
    have no : (n < 0 ∨ 4096 < n ∨ (l.all fun x => decide (x < 32)) = false ∨ 65536 < s.tape.length + l.length) → Q (.int (-1)) H := fun z => by
      rw [if_pos z] at k
      exact k.stay M (Kp.refl H _)
    obtain ⟨dx, hm⟩ := M.ob
    refine rd_in rfl (iteN (fun h1 => iteT (no (by omega))) (fun h1 => ?_))
    refine ⟨_, rfl, p, l, 32, rfl, SqL.of hp, by decide, _, rfl, ?_⟩
    cases hall : (l.all fun x => decide (x < 32)) with
    | false => exact iteT (no (.inr (.inr (.inl hall))))
    | true =>
      have hln : (l.length : Int) = n := by
        rw [hlen]
        split <;> omega
      refine iteF ⟨_, rfl, m, C, dx, _, _, rfl, hm, T.cl, T.nTp, rfl, tp, _, rfl, .inl (SqL.of M.htp), _, rfl, _, _, rfl, rfl, _, _, rfl, rfl, _, rfl, ite2 (fun e => ?_) (fun e => ?_)⟩
      · have e' : (65536 : Int) < (((ivs s.tape).length : Nat) : Int) + n := of_decide_eq_true e
        rw [List.length_map] at e'
        exact no (by omega)
      · have e' : s.tape.length + l.length ≤ 65536 := by
          by_cases z : s.tape.length + l.length ≤ 65536
          · exact z
          · exact absurd (decide_eq_true (show (65536 : Int) < (((ivs s.tape).length : Nat) : Int) + n by rw [List.length_map]; omega)) e
        rw [if_neg (by rw [hall]; simp; omega)] at k
        have M1 := M.setTp (s.tape ++ l) (fun x hx => by
          rcases List.mem_append.mp hx with z | z
          · exact M.good.tape x z
          · exact of_decide_eq_true (List.all_eq_true.mp hall x z)) (by rw [List.length_append]; exact e')
        rw [ivs_append] at M1
        obtain ⟨dx1, hm1⟩ := M1.ob
        refine ⟨_, rfl, m, C, dx, _, _, rfl, hm, T.cl, T.nTp, rfl, .inl ⟨rfl, _, SqL.of M.htp⟩, _, rfl, tp, p, _, _, rfl, rfl, M.htp, hp, ?_, ?_⟩
        · rw [List.length_map, List.length_map]
          exact Nat.le_trans e' (by decide)
        · refine ⟨_, rfl, m, C, dx1, _, _, rfl, hm1, T.cl, T.nTp, rfl, tp, _, rfl, .inl (SqL.of upd_same), ?_⟩
          rw [List.length_append, List.length_map, List.length_map]
          exact k.stay M1 ((Kp.refl H _).put (by simp) _)
/-! ### start_at -/
theorem does_start (s : Rc38.Abs) (a : Int) : Rc38.does s (.start a) = if a < 0 ∨ 1023 < a then (s, Rc38.refused) else ({ s with next := a.toNat, stopped := false }, { value := 0 }) := rfl
def spSA (C : Addr) : Sp := fun vs H Q _ => ∃ (m sw bb tp pr : Addr) (s : Rc38.Abs) (a : Int), vs = [.ref m, .int a] ∧ Mach C H m sw bb tp pr s ∧
  MPost C H m [sw, bb, tp, pr] (Rc38.does s (.start a)).1 fun H' => Q (.int (Rc38.does s (.start a)).2.value) H'
theorem scSA : FnScope ["self", "place"] ["self", "place"] (defScope (sM 6)) := ⟨rfl, rfl, rfl, by decide +kernel, rfl, by decide +kernel, by decide +kernel⟩
theorem ok_start {f C : Addr} {fd : FuncData} (F : Fun K "start_at" "Machine.start_at" (sM 6) f fd) (T : TM K mg C) : FnOk P w K mg base (CXx P w) 1 f fd ["self", "place"] (spSA C) := by
  refine F.okx scSA (fun vs H Q E h => ?_) (fun cdv A outer s0 H vs Q E hr h => ?_)
  · obtain ⟨m, sw, bb, tp, pr, s, a, rfl, _⟩ := h
    rfl
  · obtain ⟨m, sw, bb, tp, pr, s, a, rfl, M, k⟩ := h
    rw [does_start] at k
    obtain ⟨dx, hm⟩ := M.ob
    refine ⟨_, pss_cons (ps_if (pt_not (pt_chain op_le op_lt pe_int (pv 1) (pe_gi T.pla))) (pss_one (ps_ret (pe_gi T.ref))) pss_nil)
      (pss_cons (ps_fld (pv 0) (pv 1) rfl) (pss_cons (ps_fld (pv 0) pe_bl rfl) (pss_one (ps_ret pe_int)))), ?_⟩
    refine rd_lt rfl (iteN (fun h1 => ?_) (fun h1 => ?_))
    · rw [if_pos (by omega)] at k
      exact k.stay M (Kp.refl H _)
    · rw [if_neg (by omega)] at k
      refine ⟨_, rfl, _, rfl, m, C, dx, _, rfl, hm, T.cl, T.nNx, (by show 9 < 1000; decide), _, rfl, m, C, dx, _, rfl, upd_same, T.cl, T.nSt, (by show 9 < 1000; decide), ?_⟩
      have ef : putF "stopped" (.bl false) (putF "next_place" (.int a) (mf sw bb tp pr s)) = mf sw bb tp pr { s with next := a.toNat, stopped := false } := by
        have ea : iv a.toNat = V.int a := by
          show V.int ((a.toNat : Nat) : Int) = V.int a
          rw [Int.toNat_of_nonneg h1.1]
        rw [← ea]
        rfl
      rw [ef]
      refine k.stay ⟨⟨dx, upd_same⟩, ?_, ?_, ?_, ?_, M.nd, ⟨M.good.len, M.good.st, M.good.acc, M.good.mult, (by show a.toNat < 1024; omega), M.good.tape, M.good.out, M.good.last, M.good.tapl, M.good.outl⟩⟩ (((Kp.refl H _).put (by simp) _).put (by simp) _)
      · rw [upd_ne (M.mne M.hsw), upd_ne (M.mne M.hsw)]; exact M.hsw
      · rw [upd_ne (M.mne M.hbb), upd_ne (M.mne M.hbb)]; exact M.hbb
      · rw [upd_ne (M.mne M.htp), upd_ne (M.mne M.htp)]; exact M.htp
      · rw [upd_ne (M.mne M.hpr), upd_ne (M.mne M.hpr)]; exact M.hpr
end
end My
end

section
set_option Elab.async false
set_option linter.all false
set_option maxRecDepth 100000
set_option maxHeartbeats 4000000
/-! Numbers with a sign, the long words, and what is taken and told. -/
namespace My
open PySem PySem.Spec PyProof.Rows L2
section
variable {P : Program} {w : World} {K : PySem.W.Frag} {mg : Str → Option Value} {base : Heap}
/-! ### bits_of, with_sign -/
def spBits : Sp := fun vs H Q _ => ∃ (z : Int) (k : Nat), vs = [.int z, iv k] ∧ k ≤ 1000 ∧ Q (.int (z % 2 ^ k)) H
theorem scBi : FnScope ["number", "width"] ["number", "width"] (defScope (top 4)) := ⟨rfl, rfl, rfl, by decide +kernel, rfl, by decide +kernel, by decide +kernel⟩
theorem ok_bits {f : Addr} {fd : FuncData} (F : Fun K "bits_of" "bits_of" (top 4) f fd) : FnOk P w K mg base (CXx P w) 1 f fd ["number", "width"] spBits := by
  refine F.okx scBi (fun vs H Q E h => ?_) (fun cdv A outer s0 H vs Q E hr h => ?_)
  · obtain ⟨z, k, rfl, _⟩ := h
    rfl
  · obtain ⟨z, k, rfl, hk, h⟩ := h
    refine ⟨_, pss_one (ps_ret (pe_op op_and (pv 0) (pe_op op_sub (pe_op op_shl pe_int (pv 1)) pe_int))), ?_⟩
    refine ⟨_, rfl, _, rfl, _, _, rfl, rfl, ⟨by omega, by omega, by decide⟩, _, _, rfl, rfl, _, _, rfl, rfl, ?_⟩
    have e : Builtin.bitAnd z (1 * 2 ^ ((k : Nat) : Int).toNat - 1) = z % 2 ^ k := by
      rw [Int.one_mul, Int.toNat_natCast, PySem.W.kbt_mask]
    show Q (.int (Builtin.bitAnd z (1 * 2 ^ ((k : Nat) : Int).toNat - 1))) H
    rw [e]
    exact h
def spWS : Sp := fun vs H Q _ => ∃ (z : Int) (k : Nat), vs = [.int z, iv (k + 1)] ∧ k < 1000 ∧ Q (.int (Rc38.signed (k + 1) (z % 2 ^ (k + 1)).toNat)) H
theorem scSg : FnScope ["number", "width", "sign"] ["number", "width"] (defScope (top 5)) := ⟨rfl, rfl, rfl, by decide +kernel, rfl, by decide +kernel, by decide +kernel⟩
theorem ok_ws {f fB : Addr} {fd fdB : FuncData} (F : Fun K "with_sign" "with_sign" (top 5) f fd) (FB : Fun K "bits_of" "bits_of" (top 4) fB fdB) (bB : Binds K fdB ["number", "width"] []) (mB : mg "bits_of" = some (.ref fB)) :
    FnOk P w K mg base (CXx P w) 2 f fd ["number", "width"] spWS := by
  have GB : FnOk P w K mg base (CXx P w) 1 fB fdB ["number", "width"] spBits := ok_bits FB
  refine F.okx scSg (fun vs H Q E h => ?_) (fun cdv A outer s0 H vs Q E hr h => ?_)
  · obtain ⟨z, k, rfl, _⟩ := h
    rfl
  · obtain ⟨z, k, rfl, hk, h⟩ := h
    refine ⟨_, pss_cons (ps_set (i := 2) scSg.nd rfl (Or.inl rfl) (pe_op op_shl pe_int (pe_op op_sub (pv 1) pe_int)))
      (pss_one (ps_ret (pe_op op_sub (pe_op op_xor (pe_call GB hr rfl mB FB.kp bB .nil passes0 (pa_cons (pv 0) (pa_cons (pv 1) pa_nil))) (pv 2)) (pv 2)))), ?_⟩
    have ek : (((k + 1 : Nat) : Int) - 1).toNat = k := by omega
    refine ⟨_, rfl, _, _, rfl, rfl, _, _, rfl, rfl, ⟨by omega, by omega, by decide⟩, _, rfl, _, rfl, z, k + 1, rfl, by omega, _, rfl, _, _, rfl, rfl, _, rfl, _, _, rfl, rfl, ?_⟩
    show Q (.int (Builtin.bitXor (z % 2 ^ (k + 1)) (1 * 2 ^ (((k + 1 : Nat) : Int) - 1).toNat) - 1 * 2 ^ (((k + 1 : Nat) : Int) - 1).toNat)) H
    rw [ek, Int.one_mul, sign_xor]
    exact h
/-! ### long_word, put_long_word -/
theorem sw_at {s : Rc38.Abs} {i : Int} {n : Nat} (hi : i = (n : Int)) (hn : n < 1024) : atI (ivs (shorts s)) i = some (iv (Rc38.short s n)) := by
  subst hi
  refine atI_nat ?_
  rw [List.getElem?_map, shorts_at s hn]
  rfl
theorem bb_at {s : Rc38.Abs} {i : Int} {n : Nat} (hi : i = (n : Int)) (hn : n < 512) : atI (ivs (betws s)) i = some (iv (betw s n)) := by
  subst hi
  refine atI_nat ?_
  rw [List.getElem?_map, betws_at s hn]
  rfl
def spLW (C : Addr) : Sp := fun vs H Q _ => ∃ (m sw bb tp pr : Addr) (s : Rc38.Abs) (n : Nat), vs = [.ref m, iv n] ∧ Mach C H m sw bb tp pr s ∧ n < 1024 ∧ Q (iv (Rc38.long s n)) H
theorem scLW : FnScope ["self", "place", "even"] ["self", "place"] (defScope (sM 7)) := ⟨rfl, rfl, rfl, by decide +kernel, rfl, by decide +kernel, by decide +kernel⟩
theorem ok_lw {f C : Addr} {fd : FuncData} (F : Fun K "long_word" "Machine.long_word" (sM 7) f fd) (T : TM K mg C) : FnOk P w K mg base (CXx P w) 1 f fd ["self", "place"] (spLW C) := by
  refine F.okx scLW (fun vs H Q E h => ?_) (fun cdv A outer s0 H vs Q E hr h => ?_)
  · obtain ⟨m, sw, bb, tp, pr, s, n, rfl, _⟩ := h
    rfl
  · obtain ⟨m, sw, bb, tp, pr, s, n, rfl, M, hn, k⟩ := h
    obtain ⟨dx, hm⟩ := M.ob
    refine ⟨_, pss_cons (ps_set (i := 2) scLW.nd rfl (Or.inl rfl) (pe_op op_sub (pv 1) (pe_op op_mod (pv 1) pe_int)))
      (pss_one (ps_ret (pe_op op_add (pe_op op_add (pe_ix ix_list (pe_fld (pv 0) rfl) (pv 2) (fun _ _ => rfl)) (pe_op op_shl (pe_ix ix_list (pe_fld (pv 0) rfl) (pe_op op_fdiv (pv 1) pe_int) (fun _ _ => rfl)) pe_int))
        (pe_op op_shl (pe_ix ix_list (pe_fld (pv 0) rfl) (pe_op op_add (pv 2) pe_int) (fun _ _ => rfl)) pe_int)))), ?_⟩
    have h1 := short_lt M.good (n := 2 * (n / 2)) (by omega)
    have h2 := short_lt M.good (n := 2 * (n / 2) + 1) (by omega)
    have h3 := betw_lt s (n / 2)
    refine ⟨_, rfl, _, rfl, _, _, rfl, rfl, (show (0 : Int) < 2 by decide), _, _, rfl, rfl, ?_⟩
    refine ⟨_, rfl, m, C, dx, _, _, rfl, hm, T.cl, T.nSw, rfl, _, rfl, sw, _, _, _, rfl, rfl, SqL.of M.hsw, sw_at (n := 2 * (n / 2)) (by omega) (by omega), ?_⟩
    refine ⟨_, rfl, m, C, dx, _, _, rfl, hm, T.cl, T.nBb, rfl, _, rfl, _, _, rfl, rfl, ⟨by decide, by decide⟩, bb, _, _, _, rfl, rfl, SqL.of M.hbb, bb_at (n := n / 2) (by omega) (by omega), _, _, rfl, rfl, ⟨by decide, by decide, ?_⟩, _, _, rfl, rfl, ?_⟩
    · show (((betw s (n / 2) : Nat) : Int)).natAbs < 18446744073709551616
      omega
    refine ⟨_, rfl, m, C, dx, _, _, rfl, hm, T.cl, T.nSw, rfl, _, rfl, _, _, rfl, rfl, sw, _, _, _, rfl, rfl, SqL.of M.hsw, sw_at (n := 2 * (n / 2) + 1) (by omega) (by omega), _, _, rfl, rfl, ⟨by decide, by decide, ?_⟩, _, _, rfl, rfl, ?_⟩
    · show (((Rc38.short s (2 * (n / 2) + 1) : Nat) : Int)).natAbs < 18446744073709551616
      omega
    have e : ((Rc38.short s (2 * (n / 2)) : Nat) : Int) + ((betw s (n / 2) : Nat) : Int) * 2 ^ (17 : Int).toNat + ((Rc38.short s (2 * (n / 2) + 1) : Nat) : Int) * 2 ^ (18 : Int).toNat = ((Rc38.long s n : Nat) : Int) := by
      rw [long_def, long_split s (n / 2)]
      show _ + _ * (131072 : Int) + _ * (262144 : Int) = _
      omega
    show Q (.int (((Rc38.short s (2 * (n / 2)) : Nat) : Int) + ((betw s (n / 2) : Nat) : Int) * 2 ^ (17 : Int).toNat + ((Rc38.short s (2 * (n / 2) + 1) : Nat) : Int) * 2 ^ (18 : Int).toNat)) H
    rw [e]
    exact k
/-- the store is another one -/
theorem Mach.setSt {C : Addr} {H H' : Hp} {m sw bb tp pr : Addr} {s : Rc38.Abs} (M : Mach C H m sw bb tp pr s) {st : List Nat} (g : Good { s with store := st }) (k : Kp H H' [sw, bb])
    (h1 : H' sw = some (.lst (ivs (shorts { s with store := st })))) (h2 : H' bb = some (.lst (ivs (betws { s with store := st })))) : Mach C H' m sw bb tp pr { s with store := st } := by
  have nd := M.nd
  simp only [List.nodup_cons, List.mem_cons, List.not_mem_nil, or_false, not_or] at nd
  obtain ⟨dx, hm⟩ := M.ob
  refine ⟨⟨dx, k.keep _ _ hm ?_⟩, h1, h2, k.keep _ _ M.htp ?_, k.keep _ _ M.hpr ?_, M.nd, g⟩
  · intro z
    simp only [List.mem_cons, List.not_mem_nil, or_false] at z
    rcases z with z | z
    · exact M.mne M.hsw z.symm
    · exact M.mne M.hbb z.symm
  · intro z
    simp only [List.mem_cons, List.not_mem_nil, or_false] at z
    rcases z with z | z
    · exact nd.1.2.1 z.symm
    · exact nd.2.1.1 z.symm
  · intro z
    simp only [List.mem_cons, List.not_mem_nil, or_false] at z
    rcases z with z | z
    · exact nd.1.2.2 z.symm
    · exact nd.2.1.2 z.symm
theorem ix_nat {n : Nat} {i : Int} {j : Nat} (hi : i = (j : Int)) (hj : j < n) : ixN n i = some j := by
  subst hi
  unfold ixN
  rw [if_pos (by omega), if_pos (by omega), Int.toNat_natCast]
def spPL (C : Addr) : Sp := fun vs H Q _ => ∃ (m sw bb tp pr : Addr) (s : Rc38.Abs) (n x : Nat), vs = [.ref m, iv n, iv x] ∧ Mach C H m sw bb tp pr s ∧ n < 1024 ∧ x < 34359738368 ∧
  ∀ H', Mach C H' m sw bb tp pr (Rc38.putLong s n x) → Kp H H' [sw, bb] → Q .non H'
theorem scPL : FnScope ["self", "place", "word", "even"] ["self", "place", "word"] (defScope (sM 8)) := ⟨rfl, rfl, rfl, by decide +kernel, rfl, by decide +kernel, by decide +kernel⟩
theorem ok_pl {f C : Addr} {fd : FuncData} (F : Fun K "put_long_word" "Machine.put_long_word" (sM 8) f fd) (T : TM K mg C) : FnOk P w K mg base (CXx P w) 1 f fd ["self", "place", "word"] (spPL C) := by
  refine F.okx scPL (fun vs H Q E h => ?_) (fun cdv A outer s0 H vs Q E hr h => ?_)
  · obtain ⟨m, sw, bb, tp, pr, s, n, x, rfl, _⟩ := h
    rfl
  · obtain ⟨m, sw, bb, tp, pr, s, n, x, rfl, M, hn, hx, k⟩ := h
    obtain ⟨dx, hm⟩ := M.ob
    refine ⟨_, pss_cons (ps_set (i := 3) scPL.nd rfl (Or.inl rfl) (pe_op op_sub (pv 1) (pe_op op_mod (pv 1) pe_int)))
      (pss_cons (ps_asg (pe_op op_mod (pv 2) (pe_gi T.wbe)) (pg_sub (pe_fld (pv 0) rfl) (pv 3) set_list))
      (pss_cons (ps_asg (pe_op op_and (pe_op op_shr (pv 2) pe_int) pe_int) (pg_sub (pe_fld (pv 0) rfl) (pe_op op_fdiv (pv 1) pe_int) set_list))
      (pss_one (ps_asg (pe_op op_shr (pv 2) pe_int) (pg_sub (pe_fld (pv 0) rfl) (pe_op op_add (pv 3) pe_int) set_list))))), ?_⟩
    have nd := M.nd
    simp only [List.nodup_cons, List.mem_cons, List.not_mem_nil, or_false, not_or] at nd
    refine ⟨_, rfl, _, rfl, _, _, rfl, rfl, (show (0 : Int) < 2 by decide), _, _, rfl, rfl, ?_⟩
    have l1 : (ivs (shorts s)).length = 1024 := by rw [List.length_map]; exact shorts_length s
    have l2 : (ivs (betws s)).length = 512 := by rw [List.length_map]; exact betws_length s
    refine ⟨_, rfl, _, _, rfl, rfl, (show (0 : Int) < 131072 by decide), _, rfl, m, C, dx, _, _, rfl, hm, T.cl, T.nSw, rfl, _, rfl, sw, _, _, 2 * (n / 2), rfl, rfl, M.hsw, ix_nat (by omega) (by rw [l1]; omega), ?_⟩
    have msw : m ≠ sw := Ne.symm (M.mne M.hsw)
    have mbb : m ≠ bb := Ne.symm (M.mne M.hbb)
    refine ⟨_, rfl, _, _, rfl, rfl, (show (0 : Int) ≤ 17 by decide), _, _, rfl, rfl, _, rfl, m, C, dx, _, _, rfl, (by rw [upd_ne msw]; exact hm), T.cl, T.nBb, rfl, _, rfl, _, _, rfl, rfl, ⟨by decide, by decide⟩, bb, _, _, n / 2, rfl, rfl, (by rw [upd_ne (Ne.symm nd.1.1)]; exact M.hbb), ix_nat (by omega) (by rw [l2]; omega), ?_⟩
    refine ⟨_, rfl, _, _, rfl, rfl, (show (0 : Int) ≤ 18 by decide), _, rfl, m, C, dx, _, _, rfl, (by rw [upd_ne mbb, upd_ne msw]; exact hm), T.cl, T.nSw, rfl, _, rfl, _, _, rfl, rfl, sw, _, _, 2 * (n / 2) + 1, rfl, rfl, (by rw [upd_ne nd.1.1, upd_same]), ix_nat (by omega) (by rw [List.length_set, l1]; omega), ?_⟩
    have e1 : V.int (((x : Nat) : Int) % 131072) = iv (x % 131072) := by
      show V.int _ = V.int _
      congr 1
    have e2 : V.int (Builtin.bitAnd (((x : Nat) : Int) / 2 ^ (17 : Int).toNat) 1) = iv (x / 131072 % 2) := by
      show V.int _ = V.int _
      rw [bitAnd_m1]
      show V.int (_ / (131072 : Int) % 2) = _
      congr 1
    have e3 : V.int (((x : Nat) : Int) / 2 ^ (18 : Int).toNat) = iv (x % 34359738368 / 262144) := by
      rw [Nat.mod_eq_of_lt hx]
      show V.int (_ / (262144 : Int)) = V.int _
      congr 1
    have k3 : Kp H _ [sw, bb] := (((Kp.refl H [sw, bb]).put (b := sw) (by simp) (.lst ((ivs (shorts s)).set (2 * (n / 2)) (V.int (((x : Nat) : Int) % 131072))))).put (b := bb) (by simp) (.lst ((ivs (betws s)).set (n / 2) (V.int (Builtin.bitAnd (((x : Nat) : Int) / 2 ^ (17 : Int).toNat) 1))))).put (b := sw) (by simp) (.lst (((ivs (shorts s)).set (2 * (n / 2)) (V.int (((x : Nat) : Int) % 131072))).set (2 * (n / 2) + 1) (V.int (((x : Nat) : Int) / 2 ^ (18 : Int).toNat))))
    refine k _ (M.setSt (st := s.store.set (n / 2) (x % 34359738368)) (good_putLong M.good hn x) k3 ?_ ?_) k3
    · rw [upd_same]
      have := shorts_putLong M.good hn x
      show some (HO.lst _) = some (HO.lst (ivs (shorts (Rc38.putLong s n x))))
      rw [this, ivs_set, ivs_set, ← e1, ← e3]
    · rw [upd_ne (Ne.symm nd.1.1), upd_same]
      have := betws_putLong M.good hn x
      show some (HO.lst _) = some (HO.lst (ivs (betws (Rc38.putLong s n x))))
      rw [this, ivs_set, ← e2]
end
end My
end

section
set_option Elab.async false
set_option linter.all false
set_option maxRecDepth 100000
set_option maxHeartbeats 4000000
/-! What is taken and told: take, look, registers. -/
namespace My
open PySem PySem.Spec PyProof.Rows L2
/-- what machine.py and orders.py read beside -/
structure TB (mg : Str → Option Value) : Prop where
  swi : GI mg "SHORT_WIDTH" 17
  lwi : GI mg "LONG_WIDTH" 35
  awi : GI mg "ACCUMULATOR_WIDTH" 71
  low : GI mg "LOWER_WIDTH" 64
  mta : GI mg "MOST_TAKEN" 65536
  len : mg "len" = none
/-- behind a call that answers a list -/
def LPost (C : Addr) (H : Hp) (m : Addr) (L : List Addr) (y : Rc38.Abs × List Int) (Q : V → Hp → Prop) : Prop :=
  ∀ (H' : Hp) (p sw bb tp pr : Addr), Mach C H' m sw bb tp pr y.1 → Kp H H' (m :: L) → (∀ b ∈ [sw, bb, tp, pr], b ∈ L ∨ H b = none) → H p = none → H' p = some (.lst (y.2.map V.int)) → p ∉ [sw, bb, tp, pr] → Q (.ref p) H'
theorem Mach.not_new {C : Addr} {H : Hp} {m sw bb tp pr : Addr} {s : Rc38.Abs} (M : Mach C H m sw bb tp pr s) {p : Addr} (hp : H p = none) : p ∉ [sw, bb, tp, pr] := fun z => by
  simp only [List.mem_cons, List.not_mem_nil, or_false] at z
  rcases z with h | h | h | h
  · rw [h, M.hsw] at hp; cases hp
  · rw [h, M.hbb] at hp; cases hp
  · rw [h, M.htp] at hp; cases hp
  · rw [h, M.hpr] at hp; cases hp
/-- the machine has turned to H1, where the list is laid -/
theorem LPost.lay {C : Addr} {H H1 : Hp} {m : Addr} {L : List Addr} {y : Rc38.Abs × List Int} {Q : V → Hp → Prop} (h : LPost C H m L y Q) {sw bb tp pr : Addr} (M : Mach C H1 m sw bb tp pr y.1) (k : Kp H H1 (m :: L)) (hb : ∀ b ∈ [sw, bb, tp, pr], b ∈ L ∨ H b = none)
    {xs : List V} (e : xs = y.2.map V.int) : ∀ p, H1 p = none → Q (.ref p) (upd H1 p (.lst xs)) := fun p hp =>
  h _ p sw bb tp pr (M.new hp _) (k.new hp _) hb (k.free p hp) (by rw [upd_same, e]) (M.not_new hp)
section
variable {P : Program} {w : World} {K : PySem.W.Frag} {mg : Str → Option Value} {base : Heap}
/-! ### take -/
theorem cut_to (l : List Nat) (n : Nat) : cutV (ivs l) none (some (n : Int)) = ivs (l.take n) := by
  unfold cutV
  rw [HT.sIx_nat, List.length_map]
  show ((ivs l).drop 0).take (min n l.length - 0) = _
  rw [List.drop_zero, Nat.sub_zero]
  show (l.map iv).take _ = (l.take n).map iv
  rw [← List.map_take]
  congr 1
  by_cases h : n ≤ l.length
  · rw [Nat.min_eq_left h]
  · rw [Nat.min_eq_right (by omega), List.take_length, List.take_of_length_le (by omega)]
theorem cut_from (l : List Nat) (n : Nat) : cutV (ivs l) (some (n : Int)) none = ivs (l.drop n) := by
  unfold cutV
  rw [HT.sIx_nat, List.length_map]
  show ((ivs l).drop (min n l.length)).take (l.length - min n l.length) = _
  show ((l.map iv).drop _).take _ = (l.drop n).map iv
  rw [← List.map_drop, ← List.map_take]
  congr 1
  by_cases h : n ≤ l.length
  · rw [Nat.min_eq_left h, List.take_of_length_le (by rw [List.length_drop]; exact Nat.le_refl _)]
  · rw [Nat.min_eq_right (by omega), Nat.sub_self, List.take_zero, List.drop_eq_nil_of_le (by omega)]
def spTk (C : Addr) : Sp := fun vs H Q _ => ∃ (m sw bb tp pr : Addr) (s : Rc38.Abs) (n : Int), vs = [.ref m, .int n] ∧ Mach C H m sw bb tp pr s ∧ LPost C H m [sw, bb, tp, pr] (stp s [[6, n]]) Q
theorem scTk : FnScope ["self", "most", "taken"] ["self", "most"] (defScope (sM 9)) := ⟨rfl, rfl, rfl, by decide +kernel, rfl, by decide +kernel, by decide +kernel⟩
theorem stp_take (s : Rc38.Abs) (n : Int) : stp s [[6, n]] = ({ s with out := s.out.drop (Rc38.room_ n) }, (((s.out.take (Rc38.room_ n)).length : Nat) : Int) :: (s.out.take (Rc38.room_ n)).map fun (b : Nat) => (b : Int)) := rfl
theorem ints_ivs (l : List Nat) : (l.map fun (b : Nat) => (b : Int)).map V.int = ivs l := by
  rw [List.map_map]
  rfl
theorem ok_tk {f C : Addr} {fd : FuncData} (F : Fun K "take" "Machine.take" (sM 9) f fd) (T : TM K mg C) (B : TB mg) : FnOk P w K mg base (CXx P w) 1 f fd ["self", "most"] (spTk C) := by
  refine F.okx scTk (fun vs H Q E h => ?_) (fun cdv A outer s0 H vs Q E hr h => ?_)
  · obtain ⟨m, sw, bb, tp, pr, s, n, rfl, _⟩ := h
    rfl
  · obtain ⟨m, sw, bb, tp, pr, s, n, rfl, M, k⟩ := h
    rw [stp_take] at k
    obtain ⟨dx, hm⟩ := M.ob
    refine ⟨_, pss_cons (ps_if (pt_not (pt_chain op_le op_le pe_int (pv 1) (pe_gi B.mta))) (pss_one (ps_ret (pe_lst (pa_cons pe_int pa_nil)))) pss_nil)
      (pss_cons (ps_set (i := 2) scTk.nd rfl (Or.inl rfl) (pe_slice sl_list (pe_fld (pv 0) rfl) po_none (po_some (pv 1))))
      (pss_cons (ps_fld (pv 0) (pe_slice sl_list (pe_fld (pv 0) rfl) (po_some (pv 1)) po_none) rfl)
      (pss_one (ps_ret (pe_op op_cat (pe_lst (pa_cons (pe_callB call_len_seq rfl B.len PySem.boot_len (pa_cons (pv 2) pa_nil)) pa_nil)) (pv 2)))))), ?_⟩
    refine rd_in rfl (iteN (fun h1 => ?_) (fun h1 => ?_))
    · have e0 : Rc38.room_ n = 0 := if_neg h1
      rw [e0] at k
      exact ⟨by show 1 ≤ sizeLine; decide, k.lay M (Kp.refl H _) (fun b hb => .inl hb) rfl⟩
    · have e0 : Rc38.room_ n = n.toNat := if_pos h1
      rw [e0] at k
      have en : n = ((n.toNat : Nat) : Int) := by omega
      generalize n.toNat = t at k en
      subst en
      refine ⟨_, rfl, m, C, dx, _, _, rfl, hm, T.cl, T.nPr, rfl, _, rfl, _, rfl, pr, _, rfl, SqL.of M.hpr, fun p1 hp1 => ?_⟩
      rw [cut_to]
      have M1 := M.new hp1 (.lst (ivs (s.out.take t)))
      have k1 := (Kp.refl H (m :: [sw, bb, tp, pr])).new hp1 (.lst (ivs (s.out.take t)))
      obtain ⟨dx1, hm1⟩ := M1.ob
      have hT1 : upd H p1 (.lst (ivs (s.out.take t))) p1 = some (.lst (ivs (s.out.take t))) := upd_same
      generalize upd H p1 (.lst (ivs (s.out.take t))) = H1 at M1 k1 hm1 hT1
      refine ⟨_, rfl, m, C, dx1, _, _, rfl, hm1, T.cl, T.nPr, rfl, _, rfl, _, rfl, pr, _, rfl, SqL.of M1.hpr, fun p2 hp2 => ?_⟩
      rw [cut_from]
      have M2 := M1.new hp2 (.lst (ivs (s.out.drop t)))
      have k2 := k1.new hp2 (.lst (ivs (s.out.drop t)))
      obtain ⟨dx2, hm2⟩ := M2.ob
      have hT2 : upd H1 p2 (.lst (ivs (s.out.drop t))) p1 = some (.lst (ivs (s.out.take t))) := by rw [upd_ne (ne_of_none hT1 hp2)]; exact hT1
      have hD2 : upd H1 p2 (.lst (ivs (s.out.drop t))) p2 = some (.lst (ivs (s.out.drop t))) := upd_same
      have n2 := M1.not_new hp2
      have n0 : H p2 = none := k1.free p2 hp2
      generalize upd H1 p2 (.lst (ivs (s.out.drop t))) = H2 at M2 k2 hm2 hT2 hD2
      refine ⟨_, rfl, m, C, dx2, _, rfl, hm2, T.cl, T.nPr, (by show 9 < 1000; decide), ?_⟩
      have ef : putF "printed" (.ref p2) (mf sw bb tp pr s) = mf sw bb tp p2 { s with out := s.out.drop t } := rfl
      rw [ef]
      have nd := M.nd
      have g := M.good
      simp only [List.mem_cons, List.not_mem_nil, or_false, not_or] at n2
      have M3 : Mach C (upd H2 m (.ins C dx2 (mf sw bb tp p2 { s with out := s.out.drop t }))) m sw bb tp p2 { s with out := s.out.drop t } := by
        refine ⟨⟨dx2, upd_same⟩, ?_, ?_, ?_, ?_, ?_, ⟨g.len, g.st, g.acc, g.mult, g.next, g.tape, fun x hx => g.out x (List.mem_of_mem_drop hx), g.last, g.tapl, ?_⟩⟩
        · rw [upd_ne (M2.mne M2.hsw)]; exact M2.hsw
        · rw [upd_ne (M2.mne M2.hbb)]; exact M2.hbb
        · rw [upd_ne (M2.mne M2.htp)]; exact M2.htp
        · rw [upd_ne (M2.mne hD2)]; exact hD2
        · simp only [List.nodup_cons, List.mem_cons, List.not_mem_nil, or_false, not_or] at nd ⊢
          exact ⟨⟨nd.1.1, nd.1.2.1, Ne.symm n2.1⟩, ⟨nd.2.1.1, Ne.symm n2.2.1⟩, Ne.symm n2.2.2.1, by simp, by simp⟩
        · have := g.outl
          show (s.out.drop t).length ≤ 65537
          rw [List.length_drop]
          omega
      have k3 : Kp H (upd H2 m (.ins C dx2 (mf sw bb tp p2 { s with out := s.out.drop t }))) (m :: [sw, bb, tp, pr]) := k2.put (by simp) _
      have hT3 : upd H2 m (.ins C dx2 (mf sw bb tp p2 { s with out := s.out.drop t })) p1 = some (.lst (ivs (s.out.take t))) := by rw [upd_ne (M2.mne hT2)]; exact hT2
      generalize upd H2 m (.ins C dx2 (mf sw bb tp p2 { s with out := s.out.drop t })) = H3 at M3 k3 hT3
      refine ⟨_, rfl, p1, _, rfl, .inl (SqL.of hT3), by show 1 ≤ sizeLine; decide, fun p3 hp3 => ?_⟩
      have M4 := M3.new hp3 (.lst [V.int (((ivs (s.out.take t)).length : Nat) : Int)])
      have k4 := k3.new hp3 (.lst [V.int (((ivs (s.out.take t)).length : Nat) : Int)])
      have hT4 : upd H3 p3 (.lst [V.int (((ivs (s.out.take t)).length : Nat) : Int)]) p1 = some (.lst (ivs (s.out.take t))) := by rw [upd_ne (ne_of_none hT3 hp3)]; exact hT3
      refine ⟨_, rfl, p3, p1, _, _, rfl, rfl, upd_same, hT4, ?_, k.lay M4 k4 (fun b hb => ?_) ?_⟩
      · have := g.outl
        rw [List.length_map, List.length_take, List.length_singleton]
        exact Nat.le_trans (show _ ≤ 700000 by omega) (by decide)
      · simp only [List.mem_cons, List.not_mem_nil, or_false] at hb
        rcases hb with rfl | rfl | rfl | rfl
        · exact .inl (by simp)
        · exact .inl (by simp)
        · exact .inl (by simp)
        · exact .inr n0
      · rw [List.map_cons, ints_ivs, List.length_map]
        rfl
/-! ### look -/
def spLook (C : Addr) : Sp := fun vs H Q _ => ∃ (m sw bb tp pr : Addr) (s : Rc38.Abs) (a b : Int), vs = [.ref m, .int a, .int b] ∧ Mach C H m sw bb tp pr s ∧ LPost C H m [sw, bb, tp, pr] (stp s [[7, a, b]]) Q
theorem scLk : FnScope ["self", "place", "wide"] ["self", "place", "wide"] (defScope (sM 10)) := ⟨rfl, rfl, rfl, by decide +kernel, rfl, by decide +kernel, by decide +kernel⟩
theorem stp_look (s : Rc38.Abs) (a b : Int) : stp s [[7, a, b]] = if a < 0 ∨ 1023 < a then (s, [-1]) else (s, [0, ((if b = 0 then Rc38.short s a.toNat else Rc38.long s a.toNat : Nat) : Int)]) := by
  show ((Rc38.does s (.look a b)).1, (Rc38.does s (.look a b)).2.value :: (Rc38.does s (.look a b)).2.numbers.map fun (b : Nat) => (b : Int)) = _
  have e : Rc38.does s (.look a b) = if a < 0 ∨ 1023 < a then (s, Rc38.refused) else (s, { value := 0, numbers := [if b = 0 then Rc38.short s a.toNat else Rc38.long s a.toNat] }) := rfl
  rw [e]
  split <;> rfl
theorem ok_look {f C fL : Addr} {fd fdL : FuncData} (F : Fun K "look" "Machine.look" (sM 10) f fd) (T : TM K mg C) (FL : Fun K "long_word" "Machine.long_word" (sM 7) fL fdL) (bL : Binds K fdL ["self", "place"] []) (mL : Meth K C "long_word" fL) :
    FnOk P w K mg base (CXx P w) 2 f fd ["self", "place", "wide"] (spLook C) := by
  have GL : FnOk P w K mg base (CXx P w) 1 fL fdL ["self", "place"] (spLW C) := ok_lw FL T
  refine F.okx scLk (fun vs H Q E h => ?_) (fun cdv A outer s0 H vs Q E hr h => ?_)
  · obtain ⟨m, sw, bb, tp, pr, s, a, b, rfl, _⟩ := h
    rfl
  · obtain ⟨m, sw, bb, tp, pr, s, a, b, rfl, M, k⟩ := h
    rw [stp_look] at k
    obtain ⟨dx, hm⟩ := M.ob
    refine ⟨_, pss_cons (ps_if (pt_not (pt_chain op_le op_lt pe_int (pv 1) (pe_gi T.pla))) (pss_one (ps_ret (pe_lst (pa_cons (pe_gi T.ref) pa_nil)))) pss_nil)
      (pss_cons (ps_if (pt_cmpR op_eq (pv 2) pe_int (nomark _)) (pss_one (ps_ret (pe_lst (pa_cons pe_int (pa_cons (pe_ix ix_list (pe_fld (pv 0) rfl) (pv 1) (fun _ _ => rfl)) pa_nil))))) pss_nil)
      (pss_one (ps_ret (pe_lst (pa_cons pe_int (pa_cons (pe_meth (pv 0) T.cl mL GL hr bL .nil passes0 (pa_cons (pv 1) pa_nil)) pa_nil)))))), ?_⟩
    refine rd_lt rfl (iteN (fun h1 => ?_) (fun h1 => ?_))
    · rw [if_pos (by omega)] at k
      exact ⟨by show 1 ≤ sizeLine; decide, k.lay M (Kp.refl H _) (fun b hb => .inl hb) rfl⟩
    · rw [if_neg (by omega)] at k
      have ea : a = ((a.toNat : Nat) : Int) := by omega
      generalize a.toNat = n at k ea
      subst ea
      refine ⟨_, rfl, rfl, _, rfl, ite2 (fun e => ?_) (fun e => ?_)⟩
      · have eb : b = 0 := by
          have := of_decide_eq_true e
          exact V.int.inj this
        rw [if_pos eb] at k
        exact ⟨_, rfl, m, C, dx, _, _, rfl, hm, T.cl, T.nSw, rfl, _, rfl, sw, _, _, _, rfl, rfl, SqL.of M.hsw, sw_at rfl (by omega), by show 2 ≤ sizeLine; decide, k.lay M (Kp.refl H _) (fun b hb => .inl hb) rfl⟩
      · have eb : ¬ b = 0 := fun z => e (decide_eq_true (by rw [z]))
        rw [if_neg eb] at k
        exact ⟨_, rfl, m, dx, _, rfl, hm, rfl, _, rfl, m, sw, bb, tp, pr, s, n, rfl, M, by omega, by show 2 ≤ sizeLine; decide, k.lay M (Kp.refl H _) (fun b hb => .inl hb) rfl⟩
/-! ### registers -/
def spRegs (C : Addr) : Sp := fun vs H Q _ => ∃ (m sw bb tp pr : Addr) (s : Rc38.Abs), vs = [.ref m] ∧ Mach C H m sw bb tp pr s ∧ LPost C H m [sw, bb, tp, pr] (stp s [[8]]) Q
theorem scRg : FnScope ["self", "accumulator"] ["self"] (defScope (sM 11)) := ⟨rfl, rfl, rfl, by decide +kernel, rfl, by decide +kernel, by decide +kernel⟩
theorem stp_regs (s : Rc38.Abs) : stp s [[8]] = (s, [((s.stopped.toNat : Nat) : Int), ((s.acc % 2 ^ 64 : Nat) : Int), ((s.acc / 2 ^ 64 : Nat) : Int), (s.mult : Int), (s.next : Int), (s.tape.length : Int), (s.out.length : Int)]) := rfl
theorem ok_regs {f C fB : Addr} {fd fdB : FuncData} (F : Fun K "tell_registers" "Machine.tell_registers" (sM 11) f fd) (T : TM K mg C) (B : TB mg) (FB : Fun K "bits_of" "bits_of" (top 4) fB fdB) (bB : Binds K fdB ["number", "width"] []) (mB : mg "bits_of" = some (.ref fB)) :
    FnOk P w K mg base (CXx P w) 2 f fd ["self"] (spRegs C) := by
  have GB : FnOk P w K mg base (CXx P w) 1 fB fdB ["number", "width"] spBits := ok_bits FB
  refine F.okx scRg (fun vs H Q E h => ?_) (fun cdv A outer s0 H vs Q E hr h => ?_)
  · obtain ⟨m, sw, bb, tp, pr, s, rfl, _⟩ := h
    rfl
  · obtain ⟨m, sw, bb, tp, pr, s, rfl, M, k⟩ := h
    rw [stp_regs] at k
    obtain ⟨dx, hm⟩ := M.ob
    refine ⟨_, pss_cons (ps_set (i := 1) scRg.nd rfl (Or.inl rfl) (pe_call GB hr rfl mB FB.kp bB .nil passes0 (pa_cons (pe_fld (pv 0) rfl) (pa_cons (pe_gi B.awi) pa_nil))))
      (pss_one (ps_ret (pe_lst (pa_cons (pe_ifExp (pt_val (pe_fld (pv 0) rfl)) pe_int pe_int)
        (pa_cons (pe_call GB hr rfl mB FB.kp bB .nil passes0 (pa_cons (pv 1) (pa_cons (pe_gi B.low) pa_nil)))
        (pa_cons (pe_op op_shr (pv 1) (pe_gi B.low))
        (pa_cons (pe_call GB hr rfl mB FB.kp bB .nil passes0 (pa_cons (pe_fld (pv 0) rfl) (pa_cons (pe_gi B.lwi) pa_nil)))
        (pa_cons (pe_fld (pv 0) rfl)
        (pa_cons (pe_callB call_len_seq rfl B.len PySem.boot_len (pa_cons (pe_fld (pv 0) rfl) pa_nil))
        (pa_cons (pe_callB call_len_seq rfl B.len PySem.boot_len (pa_cons (pe_fld (pv 0) rfl) pa_nil)) pa_nil)))))))))), ?_⟩
    have ea : accR s % 2 ^ 71 = (s.acc : Int) := mod_signed 70 (by have := M.good.acc; rw [show (2 : Nat) ^ (70 + 1) = 2361183241434822606848 by decide]; exact this)
    have em : mulR s % 2 ^ 35 = (s.mult : Int) := mod_signed 34 (by have := M.good.mult; rw [show (2 : Nat) ^ (34 + 1) = 34359738368 by decide]; exact this)
    refine ⟨_, rfl, m, C, dx, _, _, rfl, hm, T.cl, T.nAc, rfl, accR s, 71, rfl, by decide, ?_⟩
    rw [ea]
    refine ⟨_, rfl, m, C, dx, _, _, rfl, hm, T.cl, T.nSt, rfl, _, rfl, ite2 (fun e => ?_) (fun e => ?_)⟩
    · refine ⟨_, rfl, (s.acc : Int), 64, rfl, by decide, _, rfl, _, _, rfl, rfl, (show (0 : Int) ≤ 64 by decide),
        _, rfl, m, C, dx, _, _, rfl, hm, T.cl, T.nMu, rfl, mulR s, 35, rfl, by decide, _, rfl, m, C, dx, _, _, rfl, hm, T.cl, T.nNx, rfl,
        _, rfl, m, C, dx, _, _, rfl, hm, T.cl, T.nTp, rfl, tp, _, rfl, .inl (SqL.of M.htp), _, rfl, m, C, dx, _, _, rfl, hm, T.cl, T.nPr, rfl, pr, _, rfl, .inl (SqL.of M.hpr), by show 7 ≤ sizeLine; decide, k.lay M (Kp.refl H _) (fun b hb => .inl hb) ?_⟩
      rw [em, e, List.length_map, List.length_map]
      rfl
    · have e : s.stopped = false := by simpa using e
      refine ⟨_, rfl, (s.acc : Int), 64, rfl, by decide, _, rfl, _, _, rfl, rfl, (show (0 : Int) ≤ 64 by decide),
        _, rfl, m, C, dx, _, _, rfl, hm, T.cl, T.nMu, rfl, mulR s, 35, rfl, by decide, _, rfl, m, C, dx, _, _, rfl, hm, T.cl, T.nNx, rfl,
        _, rfl, m, C, dx, _, _, rfl, hm, T.cl, T.nTp, rfl, tp, _, rfl, .inl (SqL.of M.htp), _, rfl, m, C, dx, _, _, rfl, hm, T.cl, T.nPr, rfl, pr, _, rfl, .inl (SqL.of M.hpr), by show 7 ≤ sizeLine; decide, k.lay M (Kp.refl H _) (fun b hb => .inl hb) ?_⟩
      rw [em, e, List.length_map, List.length_map]
      rfl
end
end My
end

section
set_option Elab.async false
set_option linter.all false
set_option maxRecDepth 100000
set_option maxHeartbeats 4000000
/-! What the orders are made of. -/
namespace My
open PySem PySem.Spec PyProof.Rows L2
/-- a def of the file's top that is known -/
structure Kn (P : Program) (w : World) (K : PySem.W.Frag) (mg : Str → Option Value) (base : Heap) (n : Nat) (x : Str) (ps : List Str) (sp : Sp) : Prop where
  ex : ∃ (f : Addr) (fd : FuncData), mg x = some (.ref f) ∧ PySem.W.keepIn K (.ref f) = true ∧ Binds K fd ps [] ∧ FnOk P w K mg base (CXx P w) n f fd ps sp
/-- a method that is known -/
structure Km (P : Program) (w : World) (K : PySem.W.Frag) (mg : Str → Option Value) (base : Heap) (n : Nat) (C : Addr) (x : Str) (ps : List Str) (sp : Sp) : Prop where
  cl : Cls K C
  ex : ∃ (f : Addr) (fd : FuncData), Meth K C x f ∧ Binds K fd ps [] ∧ FnOk P w K mg base (CXx P w) n f fd ps sp
section
variable {X : Cx} {k n : Nat} {C : Addr} {ps : List Str} {sp : Sp} {x m : Str} {p pos apos : Pos} {e o : Expr} {es : List Expr} {ta : TE} {t : TA}
theorem pe_kn (h : Kn X.prog X.w X.K X.mg X.base n x ps sp) (hr : Room k X.A) (ha : PA X (e :: es) t) (hk : n ≤ k := by decide) (hg : Gl X x := by rfl) (hdb : (x == ("__debug__" : Str)) = false := by decide)
    (he : starEach (e :: es) X.env = (false, eval e X.env) :: starEach es X.env := by rfl) (hpl : (backTo pos (starEach es X.env)).any (·.1) = false := by rfl) : PE X (.Call (.Name x p) (e :: es) [] pos) (tCall sp [] E0 t) := by
  obtain ⟨f, fd, hm, hkp, hb, F⟩ := h.ex
  exact pe_call F (hr.mono hk) hg hm hkp hb .nil passes0 ha hdb he hpl
theorem pe_km {pl : Sem Bool} (h : Km X.prog X.w X.K X.mg X.base n C m ps sp) (hr : Room k X.A) (ho : PE X o ta) (ha : PA X (e :: es) t) (hk : n ≤ k := by decide)
    (hst : starEach (e :: es) X.env = (false, eval e X.env) :: starEach es X.env := by rfl) (hpl : (backTo pos (starEach es X.env)).any (·.1) = false := by rfl)
    (ht : eval (.Call (.Attribute o m apos) (e :: es) [] pos) X.env = (do
      let ov ← eval o X.env
      standAt apos.atName
      let (f, first) ← holding [ov] (getMethod ov m pl)
      callWith pos f first (backTo pos (starEach (e :: es) X.env)) (backToKw pos (keywordEach [] X.env))) := by rfl) : PE X (.Call (.Attribute o m apos) (e :: es) [] pos) (tMeth C m sp [] E0 ta t) := by
  obtain ⟨f, fd, hm, hb, F⟩ := h.ex
  exact pe_meth ho h.cl hm F (hr.mono hk) hb .nil passes0 ha hst hpl ht
end
section
variable {P : Program} {w : World} {K : PySem.W.Frag} {mg : Str → Option Value} {base : Heap}
/-! ### place_of, is_long -/
abbrev an (o : Nat) : Nat := o / 2 % 1024
abbrev lb (o : Nat) : Bool := decide (o % 2 = 1)
theorem an_lt (o : Nat) : an o < 1024 := Nat.mod_lt _ (by decide)
def spPlc : Sp := fun vs H Q _ => ∃ o : Nat, vs = [iv o] ∧ Q (iv (an o)) H
theorem scPlc : FnScope ["order"] ["order"] (defScope (top 39)) := ⟨rfl, rfl, rfl, by decide +kernel, rfl, by decide +kernel, by decide +kernel⟩
theorem ok_plc {f : Addr} {fd : FuncData} (F : Fun K "place_of" "place_of" (top 39) f fd) : FnOk P w K mg base (CXx P w) 1 f fd ["order"] spPlc := by
  refine F.okx scPlc (fun vs H Q E h => ?_) (fun cdv A outer s0 H vs Q E hr h => ?_)
  · obtain ⟨o, rfl, _⟩ := h
    rfl
  · obtain ⟨o, rfl, k⟩ := h
    refine ⟨_, pss_one (ps_ret (pe_op op_and (pe_op op_shr (pv 0) pe_int) pe_int)), ?_⟩
    refine ⟨_, rfl, _, _, rfl, rfl, (show (0 : Int) ≤ 1 by decide), _, _, rfl, rfl, ?_⟩
    have e : Builtin.bitAnd (((o : Nat) : Int) / 2 ^ (1 : Int).toNat) 1023 = ((an o : Nat) : Int) := by
      have := PySem.W.kbt_mask (((o : Nat) : Int) / 2 ^ (1 : Int).toNat) 10
      refine Eq.trans this ?_
      show (o : Int) / 2 % 1024 = ((o / 2 % 1024 : Nat) : Int)
      omega
    show Q (.int (Builtin.bitAnd (((o : Nat) : Int) / 2 ^ (1 : Int).toNat) 1023)) H
    rw [e]
    exact k
def spIsl : Sp := fun vs H Q _ => ∃ o : Nat, vs = [iv o] ∧ Q (.bl (lb o)) H
theorem scIsl : FnScope ["order"] ["order"] (defScope (top 40)) := ⟨rfl, rfl, rfl, by decide +kernel, rfl, by decide +kernel, by decide +kernel⟩
theorem ok_isl {f : Addr} {fd : FuncData} (F : Fun K "is_long" "is_long" (top 40) f fd) : FnOk P w K mg base (CXx P w) 1 f fd ["order"] spIsl := by
  refine F.okx scIsl (fun vs H Q E h => ?_) (fun cdv A outer s0 H vs Q E hr h => ?_)
  · obtain ⟨o, rfl, _⟩ := h
    rfl
  · obtain ⟨o, rfl, k⟩ := h
    refine ⟨_, pss_one (ps_ret (pe_cmpR op_eq (pe_op op_and (pv 0) pe_int) pe_int (nomark _))), ?_⟩
    refine ⟨_, rfl, _, _, rfl, rfl, rfl, ?_⟩
    have e : decide (V.int (Builtin.bitAnd ((o : Nat) : Int) 1) = V.int 1) = lb o := by
      rw [bitAnd_m1]
      by_cases h : o % 2 = 1
      · rw [show lb o = true from decide_eq_true h]
        exact decide_eq_true (by congr 1; omega)
      · rw [show lb o = false from decide_eq_false h]
        refine decide_eq_false fun z => ?_
        have := V.int.inj z
        omega
    show Q (.bl (decide (V.int (Builtin.bitAnd ((o : Nat) : Int) 1) = V.int 1))) H
    rw [e]
    exact k
/-! ### shift_places -/
def spShp : Sp := fun vs H Q _ => ∃ o : Nat, vs = [iv o] ∧ 0 < o ∧ o < 131072 ∧ Q (iv (Rc38.lowest 17 o + 1)) H
theorem scShp : FnScope ["order"] ["order"] (defScope (top 45)) := ⟨rfl, rfl, rfl, by decide +kernel, rfl, by decide +kernel, by decide +kernel⟩
theorem ok_shp {f : Addr} {fd : FuncData} (F : Fun K "shift_places" "shift_places" (top 45) f fd) : FnOk P w K mg base (CXx P w) 1 f fd ["order"] spShp := by
  refine F.okx scShp (fun vs H Q E h => ?_) (fun cdv A outer s0 H vs Q E hr h => ?_)
  · obtain ⟨o, rfl, _⟩ := h
    rfl
  · obtain ⟨o, rfl, h0, h1, k⟩ := h
    refine ⟨_, pss_one (ps_ret (pe_bitlen (pe_op op_and (pv 0) (pe_un un_neg (pv 0))))), ?_⟩
    refine ⟨_, rfl, _, rfl, _, rfl, _, _, rfl, rfl, _, rfl, ?_⟩
    rw [low_bits h0 h1]
    exact k
/-! ### number_at -/
def spNmA (C : Addr) : Sp := fun vs H Q _ => ∃ (m sw bb tp pr : Addr) (s : Rc38.Abs) (o : Nat), vs = [.ref m, iv o] ∧ Mach C H m sw bb tp pr s ∧ Q (.int (Rc38.signed 35 (Rc38.full s (an o) (lb o)))) H
theorem scNum : FnScope ["machine", "order", "place"] ["machine", "order"] (defScope (top 41)) := ⟨rfl, rfl, rfl, by decide +kernel, rfl, by decide +kernel, by decide +kernel⟩
theorem p35k {x : Nat} (h : x < 34359738368) : (((x : Int) % 2 ^ (34 + 1)).toNat) = x := by
  show ((x : Int) % 34359738368).toNat = x
  omega
theorem p17k {x : Nat} (h : x < 131072) : (((x : Int) % 2 ^ (16 + 1)).toNat) = x := by
  show ((x : Int) % 131072).toNat = x
  omega
theorem ok_nma {f C : Addr} {fd : FuncData} (F : Fun K "number_at" "number_at" (top 41) f fd) (T : TM K mg C) (B : TB mg) (KP : Kn P w K mg base 1 "place_of" ["order"] spPlc) (KI : Kn P w K mg base 1 "is_long" ["order"] spIsl)
    (KS : Kn P w K mg base 2 "with_sign" ["number", "width"] spWS) (KL : Km P w K mg base 1 C "long_word" ["self", "place"] (spLW C)) : FnOk P w K mg base (CXx P w) 3 f fd ["machine", "order"] (spNmA C) := by
  refine F.okx scNum (fun vs H Q E h => ?_) (fun cdv A outer s0 H vs Q E hr h => ?_)
  · obtain ⟨m, sw, bb, tp, pr, s, o, rfl, _⟩ := h
    rfl
  · obtain ⟨m, sw, bb, tp, pr, s, o, rfl, M, k⟩ := h
    obtain ⟨dx, hm⟩ := M.ob
    refine ⟨_, pss_cons (ps_set (i := 2) scNum.nd rfl (Or.inl rfl) (pe_kn KP hr (pa_cons (pv 1) pa_nil)))
      (pss_cons (ps_if (pt_val (pe_kn KI hr (pa_cons (pv 1) pa_nil))) (pss_one (ps_ret (pe_kn KS hr (pa_cons (pe_km KL hr (pv 0) (pa_cons (pv 2) pa_nil)) (pa_cons (pe_gi B.lwi) pa_nil))))) pss_nil)
      (pss_one (ps_ret (pe_op op_shl (pe_kn KS hr (pa_cons (pe_ix ix_list (pe_fld (pv 0) rfl) (pv 2) (fun _ _ => rfl)) (pa_cons (pe_gi B.swi) pa_nil))) pe_int)))), ?_⟩
    have hl := long_lt M.good (an_lt o)
    have hs := short_lt M.good (an_lt o)
    refine ⟨_, rfl, o, rfl, _, rfl, o, rfl, _, rfl, ite2 (fun e => ?_) (fun e => ?_)⟩
    · have ef : Rc38.full s (an o) (lb o) = Rc38.long s (an o) := if_pos e
      rw [ef] at k
      refine ⟨_, rfl, m, dx, _, rfl, hm, rfl, _, rfl, m, sw, bb, tp, pr, s, an o, rfl, M, an_lt o, _, 34, rfl, by decide, ?_⟩
      rw [p35k hl]
      exact k
    · have ef : Rc38.full s (an o) (lb o) = Rc38.short s (an o) * 2 ^ 18 := if_neg e
      rw [ef, ← short_full hs] at k
      refine ⟨_, rfl, m, C, dx, _, _, rfl, hm, T.cl, T.nSw, rfl, _, rfl, sw, _, _, _, rfl, rfl, SqL.of M.hsw, sw_at rfl (an_lt o), _, 16, rfl, by decide, ?_⟩
      rw [p17k hs]
      refine ⟨_, _, rfl, rfl, ⟨by decide, by decide, ?_⟩, k⟩
      show (Rc38.signed 17 (Rc38.short s (an o))).natAbs < 18446744073709551616
      rw [signed17]
      split <;> omega
/-! ### put_word, put_upper_end -/
def putA (s : Rc38.Abs) (o x : Nat) : Rc38.Abs := if lb o = true then Rc38.putLong s (an o) x else Rc38.putShort s (an o) x
def upA (s : Rc38.Abs) (o x : Nat) : Rc38.Abs := if lb o = true then Rc38.putLong s (an o) x else Rc38.putShort s (an o) (x / 262144)
def spPut (C : Addr) : Sp := fun vs H Q _ => ∃ (m sw bb tp pr : Addr) (s : Rc38.Abs) (o x : Nat), vs = [.ref m, iv o, iv x] ∧ Mach C H m sw bb tp pr s ∧ x < 34359738368 ∧ (lb o = false → x < 131072) ∧
  ∀ H', Mach C H' m sw bb tp pr (putA s o x) → Kp H H' [sw, bb] → Q .non H'
theorem scPut : FnScope ["machine", "order", "word"] ["machine", "order", "word"] (defScope (top 42)) := ⟨rfl, rfl, rfl, by decide +kernel, rfl, by decide +kernel, by decide +kernel⟩
theorem ok_put {f C : Addr} {fd : FuncData} (F : Fun K "put_word" "put_word" (top 42) f fd) (T : TM K mg C) (KP : Kn P w K mg base 1 "place_of" ["order"] spPlc) (KI : Kn P w K mg base 1 "is_long" ["order"] spIsl)
    (KL : Km P w K mg base 1 C "put_long_word" ["self", "place", "word"] (spPL C)) : FnOk P w K mg base (CXx P w) 2 f fd ["machine", "order", "word"] (spPut C) := by
  refine F.okx scPut (fun vs H Q E h => ?_) (fun cdv A outer s0 H vs Q E hr h => ?_)
  · obtain ⟨m, sw, bb, tp, pr, s, o, x, rfl, _⟩ := h
    rfl
  · obtain ⟨m, sw, bb, tp, pr, s, o, x, rfl, M, hx, hx2, k⟩ := h
    obtain ⟨dx, hm⟩ := M.ob
    refine ⟨_, pss_one (ps_if (pt_val (pe_kn KI hr (pa_cons (pv 1) pa_nil))) (pss_one (ps_expr (pe_km KL hr (pv 0) (pa_cons (pe_kn KP hr (pa_cons (pv 1) pa_nil)) (pa_cons (pv 2) pa_nil)))))
      (pss_one (ps_asg (pv 2) (pg_sub (pe_fld (pv 0) rfl) (pe_kn KP hr (pa_cons (pv 1) pa_nil)) set_list)))), ?_⟩
    refine ⟨_, rfl, o, rfl, _, rfl, ite2 (fun e => ?_) (fun e => ?_)⟩
    · have ef : putA s o x = Rc38.putLong s (an o) x := if_pos e
      rw [ef] at k
      exact ⟨_, rfl, m, dx, _, rfl, hm, rfl, _, rfl, o, rfl, _, rfl, m, sw, bb, tp, pr, s, an o, x, rfl, M, an_lt o, hx, k⟩
    · have ef : putA s o x = Rc38.putShort s (an o) x := if_neg e
      have hx3 := hx2 (by simpa using e)
      rw [ef] at k
      refine ⟨_, rfl, _, rfl, m, C, dx, _, _, rfl, hm, T.cl, T.nSw, rfl, _, rfl, o, rfl, sw, _, _, an o, rfl, rfl, M.hsw, ix_nat rfl (by rw [List.length_map, shorts_length]; exact an_lt o), ?_⟩
      have e1 := shorts_putShort M.good (an_lt o) x
      rw [Nat.mod_eq_of_lt hx3] at e1
      have e2 : (ivs (shorts s)).set (an o) (iv x) = ivs (shorts (Rc38.putShort s (an o) x)) := by rw [e1, ivs_set]
      rw [e2]
      have kk : Kp H (upd H sw (.lst (ivs (shorts (Rc38.putShort s (an o) x))))) [sw, bb] := (Kp.refl H _).put (by simp) _
      exact k _ (M.setSw (st := (Rc38.putShort s (an o) x).store) (good_putShort M.good (an_lt o) x) (betws_putShort M.good (an_lt o) x)) kk
def spUp (C : Addr) : Sp := fun vs H Q _ => ∃ (m sw bb tp pr : Addr) (s : Rc38.Abs) (o x : Nat), vs = [.ref m, iv o, iv x] ∧ Mach C H m sw bb tp pr s ∧ x < 34359738368 ∧
  ∀ H', Mach C H' m sw bb tp pr (upA s o x) → Kp H H' [sw, bb] → Q .non H'
theorem scUp : FnScope ["machine", "order", "long_word"] ["machine", "order", "long_word"] (defScope (top 43)) := ⟨rfl, rfl, rfl, by decide +kernel, rfl, by decide +kernel, by decide +kernel⟩
theorem ok_up {f C : Addr} {fd : FuncData} (F : Fun K "put_upper_end" "put_upper_end" (top 43) f fd) (KI : Kn P w K mg base 1 "is_long" ["order"] spIsl) (KP : Kn P w K mg base 2 "put_word" ["machine", "order", "word"] (spPut C)) :
    FnOk P w K mg base (CXx P w) 3 f fd ["machine", "order", "long_word"] (spUp C) := by
  refine F.okx scUp (fun vs H Q E h => ?_) (fun cdv A outer s0 H vs Q E hr h => ?_)
  · obtain ⟨m, sw, bb, tp, pr, s, o, x, rfl, _⟩ := h
    rfl
  · obtain ⟨m, sw, bb, tp, pr, s, o, x, rfl, M, hx, k⟩ := h
    refine ⟨_, pss_one (ps_expr (pe_kn KP hr (pa_cons (pv 0) (pa_cons (pv 1) (pa_cons (pe_ifExp (pt_val (pe_kn KI hr (pa_cons (pv 1) pa_nil))) (pv 2) (pe_op op_shr (pv 2) pe_int)) pa_nil))))), ?_⟩
    refine ⟨_, rfl, _, rfl, _, rfl, o, rfl, _, rfl, ite2 (fun e => ?_) (fun e => ?_)⟩
    · refine ⟨_, rfl, m, sw, bb, tp, pr, s, o, x, rfl, M, hx, fun z => ?_, fun H' M' kp => k H' ?_ kp⟩
      · rw [e] at z
        cases z
      · have e1 : putA s o x = Rc38.putLong s (an o) x := if_pos e
        have e2 : upA s o x = Rc38.putLong s (an o) x := if_pos e
        rw [e2, ← e1]
        exact M'
    · have ex : V.int (((x : Nat) : Int) / 2 ^ (18 : Int).toNat) = iv (x / 262144) := by
        show V.int (_ / (262144 : Int)) = V.int _
        congr 1
      refine ⟨_, rfl, _, _, rfl, rfl, (show (0 : Int) ≤ 18 by decide), m, sw, bb, tp, pr, s, o, x / 262144, ?_, M, by omega, fun _ => by omega, fun H' M' kp => k H' ?_ kp⟩
      · rw [← ex]
        rfl
      · have e1 : putA s o (x / 262144) = Rc38.putShort s (an o) (x / 262144) := if_neg e
        have e2 : upA s o x = Rc38.putShort s (an o) (x / 262144) := if_neg e
        rw [e2, ← e1]
        exact M'
/-! ### put_accumulator -/
theorem shorts_same {s s' : Rc38.Abs} (h : s'.store = s.store) : shorts s' = shorts s := by
  unfold shorts
  apply List.map_congr_left
  intro n _
  rw [short_def, short_def, h]
theorem betws_same {s s' : Rc38.Abs} (h : s'.store = s.store) : betws s' = betws s := by
  unfold betws
  apply List.map_congr_left
  intro n _
  unfold betw
  rw [h]
/-- the machine's own numbers are others -/
theorem Mach.setOb {C : Addr} {H : Hp} {m sw bb tp pr : Addr} {s : Rc38.Abs} (M : Mach C H m sw bb tp pr s) {s' : Rc38.Abs} (dx : Addr) (g : Good s') (hs : s'.store = s.store := by rfl) (ht : s'.tape = s.tape := by rfl) (ho : s'.out = s.out := by rfl) :
    Mach C (upd H m (.ins C dx (mf sw bb tp pr s'))) m sw bb tp pr s' := by
  refine ⟨⟨dx, upd_same⟩, ?_, ?_, ?_, ?_, M.nd, g⟩
  · rw [upd_ne (M.mne M.hsw), shorts_same hs]; exact M.hsw
  · rw [upd_ne (M.mne M.hbb), betws_same hs]; exact M.hbb
  · rw [upd_ne (M.mne M.htp), ht]; exact M.htp
  · rw [upd_ne (M.mne M.hpr), ho]; exact M.hpr
def accA (s : Rc38.Abs) (z : Int) : Rc38.Abs := { s with acc := Rc38.bits 71 z }
theorem good_accA {s : Rc38.Abs} (g : Good s) (z : Int) : Good (accA s z) := good_acc g (by rw [bits71]; exact mod71_lt _)
def spAcc (C : Addr) : Sp := fun vs H Q _ => ∃ (m sw bb tp pr : Addr) (s : Rc38.Abs) (z : Int), vs = [.ref m, .int z] ∧ Mach C H m sw bb tp pr s ∧ ∀ H', Mach C H' m sw bb tp pr (accA s z) → Kp H H' [m] → Q .non H'
theorem scAcc : FnScope ["machine", "number"] ["machine", "number"] (defScope (top 44)) := ⟨rfl, rfl, rfl, by decide +kernel, rfl, by decide +kernel, by decide +kernel⟩
theorem ok_acc {f C : Addr} {fd : FuncData} (F : Fun K "put_accumulator" "put_accumulator" (top 44) f fd) (T : TM K mg C) (B : TB mg) (KS : Kn P w K mg base 2 "with_sign" ["number", "width"] spWS) : FnOk P w K mg base (CXx P w) 3 f fd ["machine", "number"] (spAcc C) := by
  refine F.okx scAcc (fun vs H Q E h => ?_) (fun cdv A outer s0 H vs Q E hr h => ?_)
  · obtain ⟨m, sw, bb, tp, pr, s, z, rfl, _⟩ := h
    rfl
  · obtain ⟨m, sw, bb, tp, pr, s, z, rfl, M, k⟩ := h
    obtain ⟨dx, hm⟩ := M.ob
    refine ⟨_, pss_one (ps_fld (pv 0) (pe_kn KS hr (pa_cons (pv 1) (pa_cons (pe_gi B.awi) pa_nil))) rfl), ?_⟩
    refine ⟨_, rfl, z, 70, rfl, by decide, _, rfl, m, C, dx, _, rfl, hm, T.cl, T.nAc, (by show 9 < 1000; decide), ?_⟩
    have ef : putF "accumulator" (.int (Rc38.signed (70 + 1) (z % 2 ^ (70 + 1)).toNat)) (mf sw bb tp pr s) = mf sw bb tp pr (accA s z) := rfl
    rw [ef]
    exact k _ (M.setOb dx (good_accA M.good z)) ((Kp.refl H _).put (by simp) _)
end
end My
end

section
set_option Elab.async false
set_option linter.all false
set_option maxRecDepth 100000
set_option maxHeartbeats 4000000
/-! The eighteen orders. -/
namespace My
open PySem PySem.Spec PyProof.Rows L2
def spDeed (C : Addr) (pre : Rc38.Abs → Nat → Prop) (g : Rc38.Abs → Nat → Rc38.Abs) : Sp := fun vs H Q _ => ∃ (m sw bb tp pr : Addr) (s : Rc38.Abs) (o : Nat), vs = [.ref m, iv o] ∧ Mach C H m sw bb tp pr s ∧ o < 131072 ∧ pre s o ∧
  ∀ H', Mach C H' m sw bb tp pr (g s o) → Kp H H' (m :: [sw, bb, tp, pr]) → Q .non H'
def any2 (_ : Rc38.Abs) (_ : Nat) : Prop := True
def gA (s : Rc38.Abs) (o : Nat) : Rc38.Abs := Rc38.adds s (Rc38.wide s (an o) (lb o))
def gS (s : Rc38.Abs) (o : Nat) : Rc38.Abs := Rc38.adds s (-Rc38.wide s (an o) (lb o))
def gH (s : Rc38.Abs) (o : Nat) : Rc38.Abs := { s with mult := Rc38.full s (an o) (lb o) }
def gV (s : Rc38.Abs) (o : Nat) : Rc38.Abs := Rc38.adds s (Rc38.signed 35 s.mult * Rc38.signed 35 (Rc38.full s (an o) (lb o)) * 4)
def gN (s : Rc38.Abs) (o : Nat) : Rc38.Abs := Rc38.adds s (-(Rc38.signed 35 s.mult * Rc38.signed 35 (Rc38.full s (an o) (lb o)) * 4))
def gC (s : Rc38.Abs) (o : Nat) : Rc38.Abs := Rc38.adds s (Rc38.signed 35 (Nat.land s.mult (Rc38.full s (an o) (lb o))) * 2 ^ 36)
def gU (s : Rc38.Abs) (o : Nat) : Rc38.Abs := Rc38.stored s (an o) (lb o)
def gT (s : Rc38.Abs) (o : Nat) : Rc38.Abs := { Rc38.stored s (an o) (lb o) with acc := 0 }
def gR (s : Rc38.Abs) (o : Nat) : Rc38.Abs := { s with acc := Rc38.bits 71 (Rc38.signed 71 s.acc / 2 ^ (Rc38.lowest 17 o + 1)) }
def gL (s : Rc38.Abs) (o : Nat) : Rc38.Abs := { s with acc := s.acc * 2 ^ (Rc38.lowest 17 o + 1) % 2 ^ 71 }
def gE (s : Rc38.Abs) (o : Nat) : Rc38.Abs := if s.acc < 2 ^ 70 then { s with next := an o } else s
def gG (s : Rc38.Abs) (o : Nat) : Rc38.Abs := if s.acc < 2 ^ 70 then s else { s with next := an o }
def gI (s : Rc38.Abs) (o : Nat) : Rc38.Abs := match s.tape with
  | [] => s
  | c :: r => putA { s with tape := r } o c
def oc (s : Rc38.Abs) (o : Nat) : Nat := if lb o = true then Rc38.long s (an o) / 2 ^ 30 else Rc38.short s (an o) / 2 ^ 12
def gO (s : Rc38.Abs) (o : Nat) : Rc38.Abs := { s with out := s.out ++ [oc s o], last := oc s o }
def gF (s : Rc38.Abs) (o : Nat) : Rc38.Abs := if lb o = true then Rc38.putLong s (an o) (s.last * 2 ^ 30) else Rc38.putShort s (an o) (s.last * 2 ^ 12)
def gY (s : Rc38.Abs) (_ : Nat) : Rc38.Abs := Rc38.adds s (2 ^ 35)
def gX (s : Rc38.Abs) (_ : Nat) : Rc38.Abs := s
def gZ (s : Rc38.Abs) (_ : Nat) : Rc38.Abs := { s with stopped := true }
theorem num_in {s : Rc38.Abs} (g : Good s) (o : Nat) : -17179869184 ≤ Rc38.signed 35 (Rc38.full s (an o) (lb o)) ∧ Rc38.signed 35 (Rc38.full s (an o) (lb o)) < 17179869184 :=
  signed_lt 34 (full_lt g (an_lt o) _)
theorem num_small {s : Rc38.Abs} (g : Good s) (o : Nat) : (Rc38.signed 35 (Rc38.full s (an o) (lb o))).natAbs < 18446744073709551616 := by
  have := num_in g o
  omega
theorem mul_in {s : Rc38.Abs} (g : Good s) : -17179869184 ≤ mulR s ∧ mulR s < 17179869184 := signed_lt 34 g.mult
theorem acc_in {s : Rc38.Abs} (g : Good s) : -1180591620717411303424 ≤ accR s ∧ accR s < 1180591620717411303424 := signed_lt 70 g.acc
section
variable {P : Program} {w : World} {K : PySem.W.Frag} {mg : Str → Option Value} {base : Heap} {f C : Addr} {fd : FuncData}
/-- what the orders' defs call -/
structure Od (P : Program) (w : World) (K : PySem.W.Frag) (mg : Str → Option Value) (base : Heap) (C : Addr) : Prop where
  T : TM K mg C
  B : TB mg
  bits : Kn P w K mg base 1 "bits_of" ["number", "width"] spBits
  plc : Kn P w K mg base 1 "place_of" ["order"] spPlc
  shp : Kn P w K mg base 1 "shift_places" ["order"] spShp
  num : Kn P w K mg base 3 "number_at" ["machine", "order"] (spNmA C)
  put : Kn P w K mg base 2 "put_word" ["machine", "order", "word"] (spPut C)
  up : Kn P w K mg base 3 "put_upper_end" ["machine", "order", "long_word"] (spUp C)
  acc : Kn P w K mg base 3 "put_accumulator" ["machine", "number"] (spAcc C)
abbrev dps : List Str := ["machine", "order"]
theorem sc46 : FnScope ["machine", "order"] dps (defScope (top 46)) := ⟨rfl, rfl, rfl, by decide +kernel, rfl, by decide +kernel, by decide +kernel⟩
theorem ok_A (F : Fun K "add" "add" (top 46) f fd) (O : Od P w K mg base C) : FnOk P w K mg base (CXx P w) 4 f fd dps (spDeed C any2 gA) := by
  refine F.okx sc46 (fun vs H Q E h => ?_) (fun cdv A outer s0 H vs Q E hr h => ?_)
  · obtain ⟨m, sw, bb, tp, pr, s, o, rfl, _⟩ := h
    rfl
  · obtain ⟨m, sw, bb, tp, pr, s, o, rfl, M, ho, _, k⟩ := h
    obtain ⟨dx, hm⟩ := M.ob
    refine ⟨_, pss_one (ps_expr (pe_kn O.acc hr (pa_cons (pv 0) (pa_cons (pe_op op_add (pe_fld (pv 0) rfl) (pe_op op_shl (pe_kn O.num hr (pa_cons (pv 0) (pa_cons (pv 1) pa_nil))) pe_int)) pa_nil)))), ?_⟩
    refine ⟨_, rfl, _, rfl, m, C, dx, _, _, rfl, hm, O.T.cl, O.T.nAc, rfl, _, rfl, _, rfl, m, sw, bb, tp, pr, s, o, rfl, M, _, _, rfl, rfl, ⟨by decide, by decide, num_small M.good o⟩, _, _, rfl, rfl, m, sw, bb, tp, pr, s, _, rfl, M, fun H' M' kp => k H' ?_ (kp.mono (by simp))⟩
    have e : gA s o = accA s (accR s + Rc38.signed 35 (Rc38.full s (an o) (lb o)) * 2 ^ (36 : Int).toNat) := by
      unfold gA
      rw [wide_eq s (an o) (lb o) (short_lt M.good (an_lt o))]
      rfl
    rw [e]
    exact M'
theorem sc47 : FnScope ["machine", "order"] dps (defScope (top 47)) := ⟨rfl, rfl, rfl, by decide +kernel, rfl, by decide +kernel, by decide +kernel⟩
theorem ok_S (F : Fun K "subtract" "subtract" (top 47) f fd) (O : Od P w K mg base C) : FnOk P w K mg base (CXx P w) 4 f fd dps (spDeed C any2 gS) := by
  refine F.okx sc47 (fun vs H Q E h => ?_) (fun cdv A outer s0 H vs Q E hr h => ?_)
  · obtain ⟨m, sw, bb, tp, pr, s, o, rfl, _⟩ := h
    rfl
  · obtain ⟨m, sw, bb, tp, pr, s, o, rfl, M, ho, _, k⟩ := h
    obtain ⟨dx, hm⟩ := M.ob
    refine ⟨_, pss_one (ps_expr (pe_kn O.acc hr (pa_cons (pv 0) (pa_cons (pe_op op_sub (pe_fld (pv 0) rfl) (pe_op op_shl (pe_kn O.num hr (pa_cons (pv 0) (pa_cons (pv 1) pa_nil))) pe_int)) pa_nil)))), ?_⟩
    refine ⟨_, rfl, _, rfl, m, C, dx, _, _, rfl, hm, O.T.cl, O.T.nAc, rfl, _, rfl, _, rfl, m, sw, bb, tp, pr, s, o, rfl, M, _, _, rfl, rfl, ⟨by decide, by decide, num_small M.good o⟩, _, _, rfl, rfl, m, sw, bb, tp, pr, s, _, rfl, M, fun H' M' kp => k H' ?_ (kp.mono (by simp))⟩
    have e : gS s o = accA s (accR s - Rc38.signed 35 (Rc38.full s (an o) (lb o)) * 2 ^ (36 : Int).toNat) := by
      unfold gS
      rw [wide_eq s (an o) (lb o) (short_lt M.good (an_lt o)), Int.sub_eq_add_neg]
      rfl
    rw [e]
    exact M'
theorem sc48 : FnScope ["machine", "order"] dps (defScope (top 48)) := ⟨rfl, rfl, rfl, by decide +kernel, rfl, by decide +kernel, by decide +kernel⟩
theorem ok_H (F : Fun K "hold_multiplier" "hold_multiplier" (top 48) f fd) (O : Od P w K mg base C) : FnOk P w K mg base (CXx P w) 4 f fd dps (spDeed C any2 gH) := by
  refine F.okx sc48 (fun vs H Q E h => ?_) (fun cdv A outer s0 H vs Q E hr h => ?_)
  · obtain ⟨m, sw, bb, tp, pr, s, o, rfl, _⟩ := h
    rfl
  · obtain ⟨m, sw, bb, tp, pr, s, o, rfl, M, ho, _, k⟩ := h
    obtain ⟨dx, hm⟩ := M.ob
    refine ⟨_, pss_one (ps_fld (pv 0) (pe_kn O.num hr (pa_cons (pv 0) (pa_cons (pv 1) pa_nil))) rfl), ?_⟩
    refine ⟨_, rfl, _, rfl, m, sw, bb, tp, pr, s, o, rfl, M, _, rfl, m, C, dx, _, rfl, hm, O.T.cl, O.T.nMu, (by show 9 < 1000; decide), ?_⟩
    have ef : putF "multiplier" (.int (Rc38.signed 35 (Rc38.full s (an o) (lb o)))) (mf sw bb tp pr s) = mf sw bb tp pr (gH s o) := rfl
    rw [ef]
    exact k _ (M.setOb dx (good_mult M.good (full_lt M.good (an_lt o) _))) ((Kp.refl H _).put (by simp) _)
theorem sc49 : FnScope ["machine", "order"] dps (defScope (top 49)) := ⟨rfl, rfl, rfl, by decide +kernel, rfl, by decide +kernel, by decide +kernel⟩
theorem ok_V (F : Fun K "add_product" "add_product" (top 49) f fd) (O : Od P w K mg base C) : FnOk P w K mg base (CXx P w) 4 f fd dps (spDeed C any2 gV) := by
  refine F.okx sc49 (fun vs H Q E h => ?_) (fun cdv A outer s0 H vs Q E hr h => ?_)
  · obtain ⟨m, sw, bb, tp, pr, s, o, rfl, _⟩ := h
    rfl
  · obtain ⟨m, sw, bb, tp, pr, s, o, rfl, M, ho, _, k⟩ := h
    obtain ⟨dx, hm⟩ := M.ob
    refine ⟨_, pss_one (ps_expr (pe_kn O.acc hr (pa_cons (pv 0) (pa_cons (pe_op op_add (pe_fld (pv 0) rfl) (pe_op op_mul (pe_op op_mul (pe_fld (pv 0) rfl) (pe_kn O.num hr (pa_cons (pv 0) (pa_cons (pv 1) pa_nil)))) pe_int)) pa_nil)))), ?_⟩
    have hmul : CMul (mulR s) (Rc38.signed 35 (Rc38.full s (an o) (lb o))) := .inl (by
      have := mul_in M.good
      show -18446744073709551616 < mulR s ∧ mulR s < 18446744073709551616
      omega)
    exact ⟨_, rfl, _, rfl, m, C, dx, _, _, rfl, hm, O.T.cl, O.T.nAc, rfl, _, rfl, m, C, dx, _, _, rfl, hm, O.T.cl, O.T.nMu, rfl, _, rfl, _, rfl, m, sw, bb, tp, pr, s, o, rfl, M, _, _, rfl, rfl, hmul, _, _, rfl, rfl, .inr ⟨by decide, by decide⟩, _, _, rfl, rfl, m, sw, bb, tp, pr, s, _, rfl, M, fun H' M' kp => k H' M' (kp.mono (by simp))⟩
theorem sc50 : FnScope ["machine", "order"] dps (defScope (top 50)) := ⟨rfl, rfl, rfl, by decide +kernel, rfl, by decide +kernel, by decide +kernel⟩
theorem ok_N (F : Fun K "subtract_product" "subtract_product" (top 50) f fd) (O : Od P w K mg base C) : FnOk P w K mg base (CXx P w) 4 f fd dps (spDeed C any2 gN) := by
  refine F.okx sc50 (fun vs H Q E h => ?_) (fun cdv A outer s0 H vs Q E hr h => ?_)
  · obtain ⟨m, sw, bb, tp, pr, s, o, rfl, _⟩ := h
    rfl
  · obtain ⟨m, sw, bb, tp, pr, s, o, rfl, M, ho, _, k⟩ := h
    obtain ⟨dx, hm⟩ := M.ob
    refine ⟨_, pss_one (ps_expr (pe_kn O.acc hr (pa_cons (pv 0) (pa_cons (pe_op op_sub (pe_fld (pv 0) rfl) (pe_op op_mul (pe_op op_mul (pe_fld (pv 0) rfl) (pe_kn O.num hr (pa_cons (pv 0) (pa_cons (pv 1) pa_nil)))) pe_int)) pa_nil)))), ?_⟩
    have hmul : CMul (mulR s) (Rc38.signed 35 (Rc38.full s (an o) (lb o))) := .inl (by
      have := mul_in M.good
      show -18446744073709551616 < mulR s ∧ mulR s < 18446744073709551616
      omega)
    refine ⟨_, rfl, _, rfl, m, C, dx, _, _, rfl, hm, O.T.cl, O.T.nAc, rfl, _, rfl, m, C, dx, _, _, rfl, hm, O.T.cl, O.T.nMu, rfl, _, rfl, _, rfl, m, sw, bb, tp, pr, s, o, rfl, M, _, _, rfl, rfl, hmul, _, _, rfl, rfl, .inr ⟨by decide, by decide⟩, _, _, rfl, rfl, m, sw, bb, tp, pr, s, _, rfl, M, fun H' M' kp => k H' ?_ (kp.mono (by simp))⟩
    have e : gN s o = accA s (accR s - mulR s * Rc38.signed 35 (Rc38.full s (an o) (lb o)) * 4) := by
      rw [Int.sub_eq_add_neg]
      rfl
    rw [e]
    exact M'
theorem sc51 : FnScope ["machine", "order", "common"] dps (defScope (top 51)) := ⟨rfl, rfl, rfl, by decide +kernel, rfl, by decide +kernel, by decide +kernel⟩
theorem ok_C (F : Fun K "add_common_bits" "add_common_bits" (top 51) f fd) (O : Od P w K mg base C) : FnOk P w K mg base (CXx P w) 4 f fd dps (spDeed C any2 gC) := by
  refine F.okx sc51 (fun vs H Q E h => ?_) (fun cdv A outer s0 H vs Q E hr h => ?_)
  · obtain ⟨m, sw, bb, tp, pr, s, o, rfl, _⟩ := h
    rfl
  · obtain ⟨m, sw, bb, tp, pr, s, o, rfl, M, ho, _, k⟩ := h
    obtain ⟨dx, hm⟩ := M.ob
    refine ⟨_, pss_cons (ps_set (i := 2) sc51.nd rfl (Or.inl rfl) (pe_op op_and (pe_fld (pv 0) rfl) (pe_kn O.num hr (pa_cons (pv 0) (pa_cons (pv 1) pa_nil)))))
      (pss_one (ps_expr (pe_kn O.acc hr (pa_cons (pv 0) (pa_cons (pe_op op_add (pe_fld (pv 0) rfl) (pe_op op_shl (pv 2) pe_int)) pa_nil))))), ?_⟩
    have ea : Builtin.bitAnd (mulR s) (Rc38.signed 35 (Rc38.full s (an o) (lb o))) = Rc38.signed 35 (Nat.land s.mult (Rc38.full s (an o) (lb o))) := signed_and 34 _ _ M.good.mult (full_lt M.good (an_lt o) _)
    have hb : Nat.land s.mult (Rc38.full s (an o) (lb o)) < 34359738368 := Nat.lt_of_le_of_lt (show s.mult &&& _ ≤ s.mult from Nat.and_le_left) M.good.mult
    have hc : (Builtin.bitAnd (mulR s) (Rc38.signed 35 (Rc38.full s (an o) (lb o)))).natAbs < 18446744073709551616 := by
      rw [ea]
      have := signed_lt 34 hb
      have h1 : -17179869184 ≤ Rc38.signed 35 (Nat.land s.mult (Rc38.full s (an o) (lb o))) := this.1
      have h2 : Rc38.signed 35 (Nat.land s.mult (Rc38.full s (an o) (lb o))) < 17179869184 := this.2
      omega
    refine ⟨_, rfl, m, C, dx, _, _, rfl, hm, O.T.cl, O.T.nMu, rfl, _, rfl, _, rfl, m, sw, bb, tp, pr, s, o, rfl, M, _, _, rfl, rfl, ?_⟩
    refine ⟨_, rfl, _, rfl, m, C, dx, _, _, rfl, hm, O.T.cl, O.T.nAc, rfl, _, rfl, _, _, rfl, rfl, ⟨by decide, by decide, hc⟩, _, _, rfl, rfl, m, sw, bb, tp, pr, s, _, rfl, M, fun H' M' kp => k H' ?_ (kp.mono (by simp))⟩
    have e : gC s o = accA s (accR s + Builtin.bitAnd (mulR s) (Rc38.signed 35 (Rc38.full s (an o) (lb o))) * 2 ^ (36 : Int).toNat) := by
      rw [ea]
      rfl
    rw [e]
    exact M'
theorem up_stored {s : Rc38.Abs} (o : Nat) : upA s o (s.acc / 68719476736) = gU s o := by
  unfold upA gU Rc38.stored
  split
  · rfl
  · rw [Nat.div_div_eq_div_mul]
theorem sc52 : FnScope ["machine", "order"] dps (defScope (top 52)) := ⟨rfl, rfl, rfl, by decide +kernel, rfl, by decide +kernel, by decide +kernel⟩
theorem ok_U (F : Fun K "store_accumulator" "store_accumulator" (top 52) f fd) (O : Od P w K mg base C) : FnOk P w K mg base (CXx P w) 4 f fd dps (spDeed C any2 gU) := by
  refine F.okx sc52 (fun vs H Q E h => ?_) (fun cdv A outer s0 H vs Q E hr h => ?_)
  · obtain ⟨m, sw, bb, tp, pr, s, o, rfl, _⟩ := h
    rfl
  · obtain ⟨m, sw, bb, tp, pr, s, o, rfl, M, ho, _, k⟩ := h
    obtain ⟨dx, hm⟩ := M.ob
    refine ⟨_, pss_one (ps_expr (pe_kn O.up hr (pa_cons (pv 0) (pa_cons (pv 1) (pa_cons (pe_op op_shr (pe_kn O.bits hr (pa_cons (pe_fld (pv 0) rfl) (pa_cons (pe_gi O.B.awi) pa_nil))) pe_int) pa_nil))))), ?_⟩
    have ea : accR s % 2 ^ 71 = (s.acc : Int) := mod_signed 70 M.good.acc
    refine ⟨_, rfl, _, rfl, _, rfl, m, C, dx, _, _, rfl, hm, O.T.cl, O.T.nAc, rfl, accR s, 71, rfl, by decide, ?_⟩
    rw [ea]
    refine ⟨_, _, rfl, rfl, (show (0 : Int) ≤ 36 by decide), m, sw, bb, tp, pr, s, o, s.acc / 68719476736, rfl, M, ?_, fun H' M' kp => k H' ?_ (kp.mono (by simp))⟩
    · have := M.good.acc
      omega
    · rw [← up_stored]
      exact M'
theorem sc53 : FnScope ["machine", "order"] dps (defScope (top 53)) := ⟨rfl, rfl, rfl, by decide +kernel, rfl, by decide +kernel, by decide +kernel⟩
theorem stored_st (s : Rc38.Abs) (n : Nat) (l : Bool) : ∃ st, Rc38.stored s n l = { s with store := st } := by
  unfold Rc38.stored
  split
  · exact ⟨_, rfl⟩
  · exact ⟨_, rfl⟩
theorem ok_T (F : Fun K "store_and_clear" "store_and_clear" (top 53) f fd) (O : Od P w K mg base C) (KU : Kn P w K mg base 4 "store_accumulator" dps (spDeed C any2 gU)) : FnOk P w K mg base (CXx P w) 5 f fd dps (spDeed C any2 gT) := by
  refine F.okx sc53 (fun vs H Q E h => ?_) (fun cdv A outer s0 H vs Q E hr h => ?_)
  · obtain ⟨m, sw, bb, tp, pr, s, o, rfl, _⟩ := h
    rfl
  · obtain ⟨m, sw, bb, tp, pr, s, o, rfl, M, ho, _, k⟩ := h
    refine ⟨_, pss_cons (ps_expr (pe_kn KU hr (pa_cons (pv 0) (pa_cons (pv 1) pa_nil)))) (pss_one (ps_fld (pv 0) pe_int rfl)), ?_⟩
    refine ⟨_, rfl, _, rfl, m, sw, bb, tp, pr, s, o, rfl, M, ho, trivial, fun H1 M1 k1 => ?_⟩
    obtain ⟨dx, hm⟩ := M1.ob
    refine ⟨_, rfl, m, C, dx, _, rfl, hm, O.T.cl, O.T.nAc, (by show 9 < 1000; decide), ?_⟩
    have ef : putF "accumulator" (.int 0) (mf sw bb tp pr (gU s o)) = mf sw bb tp pr (gT s o) := rfl
    rw [ef]
    exact k _ (M1.setOb dx (good_acc M1.good (by decide))) (k1.put (by simp) _)
theorem sc54 : FnScope ["machine", "order"] dps (defScope (top 54)) := ⟨rfl, rfl, rfl, by decide +kernel, rfl, by decide +kernel, by decide +kernel⟩
def pos2 (_ : Rc38.Abs) (o : Nat) : Prop := 0 < o
theorem ok_R (F : Fun K "shift_right" "shift_right" (top 54) f fd) (O : Od P w K mg base C) : FnOk P w K mg base (CXx P w) 4 f fd dps (spDeed C pos2 gR) := by
  refine F.okx sc54 (fun vs H Q E h => ?_) (fun cdv A outer s0 H vs Q E hr h => ?_)
  · obtain ⟨m, sw, bb, tp, pr, s, o, rfl, _⟩ := h
    rfl
  · obtain ⟨m, sw, bb, tp, pr, s, o, rfl, M, ho, h0, k⟩ := h
    obtain ⟨dx, hm⟩ := M.ob
    refine ⟨_, pss_one (ps_fld (pv 0) (pe_op op_shr (pe_fld (pv 0) rfl) (pe_kn O.shp hr (pa_cons (pv 1) pa_nil))) rfl), ?_⟩
    refine ⟨_, rfl, m, C, dx, _, _, rfl, hm, O.T.cl, O.T.nAc, rfl, _, rfl, o, rfl, h0, ho, _, _, rfl, rfl, (show (0 : Int) ≤ ((Rc38.lowest 17 o + 1 : Nat) : Int) by omega), _, rfl, m, C, dx, _, rfl, hm, O.T.cl, O.T.nAc, (by show 9 < 1000; decide), ?_⟩
    have ha := acc_in M.good
    have hh := half_lt (Rc38.lowest 17 o + 1) ha.1 ha.2 (by decide)
    have e1 : accR (gR s o) = accR s / 2 ^ (Rc38.lowest 17 o + 1) := signed_mod 70 hh.1 hh.2
    have ef : putF "accumulator" (.int (accR s / 2 ^ (((Rc38.lowest 17 o + 1 : Nat) : Int)).toNat)) (mf sw bb tp pr s) = mf sw bb tp pr (gR s o) := by
      rw [Int.toNat_natCast, ← e1]
      rfl
    show _
    rw [show ((fun i j => V.int (i / 2 ^ j.toNat)) (accR s) (((Rc38.lowest 17 o + 1 : Nat) : Int)) : V) = V.int (accR s / 2 ^ (((Rc38.lowest 17 o + 1 : Nat) : Int)).toNat) from rfl, ef]
    exact k _ (M.setOb dx (good_accA M.good _)) ((Kp.refl H _).put (by simp) _)
theorem sc55 : FnScope ["machine", "order"] dps (defScope (top 55)) := ⟨rfl, rfl, rfl, by decide +kernel, rfl, by decide +kernel, by decide +kernel⟩
theorem ok_L (F : Fun K "shift_left" "shift_left" (top 55) f fd) (O : Od P w K mg base C) : FnOk P w K mg base (CXx P w) 4 f fd dps (spDeed C pos2 gL) := by
  refine F.okx sc55 (fun vs H Q E h => ?_) (fun cdv A outer s0 H vs Q E hr h => ?_)
  · obtain ⟨m, sw, bb, tp, pr, s, o, rfl, _⟩ := h
    rfl
  · obtain ⟨m, sw, bb, tp, pr, s, o, rfl, M, ho, h0, k⟩ := h
    obtain ⟨dx, hm⟩ := M.ob
    refine ⟨_, pss_one (ps_expr (pe_kn O.acc hr (pa_cons (pv 0) (pa_cons (pe_op op_shlW (pe_fld (pv 0) rfl) (pe_kn O.shp hr (pa_cons (pv 1) pa_nil))) pa_nil)))), ?_⟩
    have ha := acc_in M.good
    have hl := (lowest_spec 17 o h0 ho).1
    have hc : CShl (accR s) ((Rc38.lowest 17 o + 1 : Nat) : Int) := ⟨by omega, by omega, Nat.lt_of_lt_of_le (show (accR s).natAbs < 2361183241434822606848 by omega) (by decide)⟩
    refine ⟨_, rfl, _, rfl, m, C, dx, _, _, rfl, hm, O.T.cl, O.T.nAc, rfl, _, rfl, o, rfl, h0, ho, _, _, rfl, rfl, hc, m, sw, bb, tp, pr, s, _, rfl, M, fun H' M' kp => k H' ?_ (kp.mono (by simp))⟩
    have e : gL s o = accA s (accR s * 2 ^ (((Rc38.lowest 17 o + 1 : Nat) : Int)).toNat) := by
      rw [Int.toNat_natCast]
      unfold gL accA
      rw [left_eq]
      rfl
    rw [e]
    exact M'
theorem sc56 : FnScope ["machine", "order"] dps (defScope (top 56)) := ⟨rfl, rfl, rfl, by decide +kernel, rfl, by decide +kernel, by decide +kernel⟩
theorem ok_E (F : Fun K "jump_unless_below" "jump_unless_below" (top 56) f fd) (O : Od P w K mg base C) : FnOk P w K mg base (CXx P w) 2 f fd dps (spDeed C any2 gE) := by
  refine F.okx sc56 (fun vs H Q E h => ?_) (fun cdv A outer s0 H vs Q E hr h => ?_)
  · obtain ⟨m, sw, bb, tp, pr, s, o, rfl, _⟩ := h
    rfl
  · obtain ⟨m, sw, bb, tp, pr, s, o, rfl, M, ho, _, k⟩ := h
    obtain ⟨dx, hm⟩ := M.ob
    refine ⟨_, pss_one (ps_if (pt_cmpR op_ge (pe_fld (pv 0) rfl) pe_int (nomark _)) (pss_one (ps_fld (pv 0) (pe_kn O.plc hr (pa_cons (pv 1) pa_nil)) rfl)) pss_nil), ?_⟩
    refine ⟨_, rfl, m, C, dx, _, _, rfl, hm, O.T.cl, O.T.nAc, rfl, _, _, rfl, rfl, _, rfl, ite2 (fun e => ?_) (fun e => ?_)⟩
    · have e0 : 0 ≤ accR s := of_decide_eq_true e
      have eg : gE s o = { s with next := an o } := if_pos ((acc_neg M.good).mp e0)
      rw [eg] at k
      refine ⟨_, rfl, o, rfl, _, rfl, m, C, dx, _, rfl, hm, O.T.cl, O.T.nNx, (by show 9 < 1000; decide), ?_⟩
      have ef : putF "next_place" (iv (an o)) (mf sw bb tp pr s) = mf sw bb tp pr { s with next := an o } := rfl
      rw [ef]
      exact k _ (M.setOb dx (good_next M.good (an_lt o))) ((Kp.refl H _).put (by simp) _)
    · have e0 : ¬ 0 ≤ accR s := fun z => e (decide_eq_true z)
      have eg : gE s o = s := if_neg fun z => e0 ((acc_neg M.good).mpr z)
      rw [eg] at k
      exact k H M (Kp.refl H _)
theorem sc57 : FnScope ["machine", "order"] dps (defScope (top 57)) := ⟨rfl, rfl, rfl, by decide +kernel, rfl, by decide +kernel, by decide +kernel⟩
theorem ok_G (F : Fun K "jump_if_below" "jump_if_below" (top 57) f fd) (O : Od P w K mg base C) : FnOk P w K mg base (CXx P w) 2 f fd dps (spDeed C any2 gG) := by
  refine F.okx sc57 (fun vs H Q E h => ?_) (fun cdv A outer s0 H vs Q E hr h => ?_)
  · obtain ⟨m, sw, bb, tp, pr, s, o, rfl, _⟩ := h
    rfl
  · obtain ⟨m, sw, bb, tp, pr, s, o, rfl, M, ho, _, k⟩ := h
    obtain ⟨dx, hm⟩ := M.ob
    refine ⟨_, pss_one (ps_if (pt_cmpR op_lt (pe_fld (pv 0) rfl) pe_int (nomark _)) (pss_one (ps_fld (pv 0) (pe_kn O.plc hr (pa_cons (pv 1) pa_nil)) rfl)) pss_nil), ?_⟩
    refine ⟨_, rfl, m, C, dx, _, _, rfl, hm, O.T.cl, O.T.nAc, rfl, _, _, rfl, rfl, _, rfl, ite2 (fun e => ?_) (fun e => ?_)⟩
    · have e0 : accR s < 0 := of_decide_eq_true e
      have eg : gG s o = { s with next := an o } := if_neg fun z => by
        have : 0 ≤ accR s := (acc_neg M.good).mpr z
        omega
      rw [eg] at k
      refine ⟨_, rfl, o, rfl, _, rfl, m, C, dx, _, rfl, hm, O.T.cl, O.T.nNx, (by show 9 < 1000; decide), ?_⟩
      have ef : putF "next_place" (iv (an o)) (mf sw bb tp pr s) = mf sw bb tp pr { s with next := an o } := rfl
      rw [ef]
      exact k _ (M.setOb dx (good_next M.good (an_lt o))) ((Kp.refl H _).put (by simp) _)
    · have e0 : ¬ accR s < 0 := fun z => e (decide_eq_true z)
      have eg : gG s o = s := if_pos ((acc_neg M.good).mp (show 0 ≤ accR s by omega))
      rw [eg] at k
      exact k H M (Kp.refl H _)
theorem sc58 : FnScope ["machine", "order"] dps (defScope (top 58)) := ⟨rfl, rfl, rfl, by decide +kernel, rfl, by decide +kernel, by decide +kernel⟩
def tape2 (s : Rc38.Abs) (_ : Nat) : Prop := s.tape ≠ []
theorem ok_I (F : Fun K "read_sign" "read_sign" (top 58) f fd) (O : Od P w K mg base C) : FnOk P w K mg base (CXx P w) 3 f fd dps (spDeed C tape2 gI) := by
  refine F.okx sc58 (fun vs H Q E h => ?_) (fun cdv A outer s0 H vs Q E hr h => ?_)
  · obtain ⟨m, sw, bb, tp, pr, s, o, rfl, _⟩ := h
    rfl
  · obtain ⟨m, sw, bb, tp, pr, s, o, rfl, M, ho, ht, k⟩ := h
    obtain ⟨dx, hm⟩ := M.ob
    refine ⟨_, pss_one (ps_expr (pe_kn O.put hr (pa_cons (pv 0) (pa_cons (pv 1) (pa_cons (pe_bm PySem.F.plainAttrs_list PySem.F.slot_list_pop PySem.F.type_list_pop mt_popAt (pe_fld (pv 0) rfl) (pa_cons pe_int pa_nil)) pa_nil))))), ?_⟩
    cases hc : s.tape with
    | nil => exact absurd hc ht
    | cons c r =>
      have eg : gI s o = putA { s with tape := r } o c := by
        unfold gI
        rw [hc]
      rw [eg] at k
      have hc32 := M.good.tape c (by rw [hc]; exact List.mem_cons_self ..)
      have hlen := M.good.tapl
      rw [hc, List.length_cons] at hlen
      have htp := M.htp
      rw [hc] at htp
      have M1 := M.setTp r (fun x hx => M.good.tape x (by rw [hc]; exact List.mem_cons_of_mem _ hx)) (by omega)
      refine ⟨_, rfl, _, rfl, _, rfl, m, C, dx, _, _, rfl, hm, O.T.cl, O.T.nTp, rfl, .inl ⟨rfl, _, SqL.of htp⟩, tp, _, 0, 0, iv c, rfl, rfl, htp, by decide, by decide, ?_, rfl, ?_⟩
      · show seqIndex? 0 (((ivs r).length + 1 : Nat)) = some 0
        unfold seqIndex?
        simp
      · exact ⟨m, sw, bb, tp, pr, _, o, c, rfl, M1, by omega, fun _ => by omega, fun H' M' kp => k H' M' (((Kp.refl H _).put (by simp) _).trans (kp.mono (by simp)))⟩
theorem sc59 : FnScope ["machine", "order"] dps (defScope (top 59)) := ⟨rfl, rfl, rfl, by decide +kernel, rfl, by decide +kernel, by decide +kernel⟩
def calm2 (s : Rc38.Abs) (_ : Nat) : Prop := s.out.length ≤ 65536
theorem oc_lt {s : Rc38.Abs} (g : Good s) (o : Nat) : oc s o < 32 := by
  unfold oc
  have h1 := long_lt g (an_lt o)
  have h2 := short_lt g (an_lt o)
  split
  · show Rc38.long s (an o) / 1073741824 < 32
    omega
  · show Rc38.short s (an o) / 4096 < 32
    omega
theorem oc_full (s : Rc38.Abs) (o : Nat) : Rc38.full s (an o) (lb o) / 1073741824 = oc s o := by
  unfold oc Rc38.full
  split
  · rfl
  · show Rc38.short s (an o) * 262144 / 1073741824 = Rc38.short s (an o) / 4096
    omega
theorem ok_O (F : Fun K "print_sign" "print_sign" (top 59) f fd) (O : Od P w K mg base C) : FnOk P w K mg base (CXx P w) 4 f fd dps (spDeed C calm2 gO) := by
  refine F.okx sc59 (fun vs H Q E h => ?_) (fun cdv A outer s0 H vs Q E hr h => ?_)
  · obtain ⟨m, sw, bb, tp, pr, s, o, rfl, _⟩ := h
    rfl
  · obtain ⟨m, sw, bb, tp, pr, s, o, rfl, M, ho, hcalm, k⟩ := h
    obtain ⟨dx, hm⟩ := M.ob
    have hcalm : s.out.length ≤ 65536 := hcalm
    refine ⟨_, pss_cons (ps_fld (pv 0) (pe_op op_shr (pe_kn O.bits hr (pa_cons (pe_kn O.num hr (pa_cons (pv 0) (pa_cons (pv 1) pa_nil))) (pa_cons (pe_gi O.B.lwi) pa_nil))) pe_int) rfl)
      (pss_one (ps_expr (pe_bm PySem.F.plainAttrs_list PySem.F.slot_list_append PySem.F.type_list_append mt_append (pe_fld (pv 0) rfl) (pa_cons (pe_fld (pv 0) rfl) pa_nil)))), ?_⟩
    have ea : Rc38.signed 35 (Rc38.full s (an o) (lb o)) % 2 ^ 35 = ((Rc38.full s (an o) (lb o) : Nat) : Int) := mod_signed 34 (full_lt M.good (an_lt o) _)
    refine ⟨_, rfl, _, rfl, m, sw, bb, tp, pr, s, o, rfl, M, _, 35, rfl, by decide, ?_⟩
    rw [ea]
    refine ⟨_, _, rfl, rfl, (show (0 : Int) ≤ 30 by decide), _, rfl, m, C, dx, _, rfl, hm, O.T.cl, O.T.nLp, (by show 9 < 1000; decide), ?_⟩
    have e1 : V.int (((Rc38.full s (an o) (lb o) : Nat) : Int) / 2 ^ (30 : Int).toNat) = iv (oc s o) := by
      rw [← oc_full]
      show V.int (_ / (1073741824 : Int)) = V.int _
      congr 1
    have ef : putF "last_printed" (V.int (((Rc38.full s (an o) (lb o) : Nat) : Int) / 2 ^ (30 : Int).toNat)) (mf sw bb tp pr s) = mf sw bb tp pr { s with last := oc s o } := by
      rw [e1]
      rfl
    rw [show ((fun (i j : Int) => V.int (i / 2 ^ j.toNat)) ((Rc38.full s (an o) (lb o) : Nat) : Int) 30 : V) = V.int (((Rc38.full s (an o) (lb o) : Nat) : Int) / 2 ^ (30 : Int).toNat) from rfl, ef]
    have g := M.good
    have gl : Good { s with last := oc s o } := ⟨g.len, g.st, g.acc, g.mult, g.next, g.tape, g.out, oc_lt g o, g.tapl, g.outl⟩
    have M1 := M.setOb (s' := { s with last := oc s o }) dx gl
    have k1 : Kp H (upd H m (.ins C dx (mf sw bb tp pr { s with last := oc s o }))) (m :: [sw, bb, tp, pr]) := (Kp.refl H _).put (by simp) _
    generalize upd H m (.ins C dx (mf sw bb tp pr { s with last := oc s o })) = H1 at M1 k1
    obtain ⟨dx1, hm1⟩ := M1.ob
    refine ⟨_, rfl, m, C, dx1, _, _, rfl, hm1, O.T.cl, O.T.nPr, rfl, .inl ⟨rfl, _, SqL.of M1.hpr⟩, _, rfl, m, C, dx1, _, _, rfl, hm1, O.T.cl, O.T.nLp, rfl, pr, _, _, rfl, rfl, M1.hpr, ?_, ?_⟩
    · rw [List.length_map]
      exact Nat.lt_of_le_of_lt hcalm (by decide)
    · have nd := M.nd
      simp only [List.nodup_cons, List.mem_cons, List.not_mem_nil, or_false, not_or] at nd
      refine k _ ⟨⟨dx1, ?_⟩, ?_, ?_, ?_, ?_, M.nd, ⟨g.len, g.st, g.acc, g.mult, g.next, g.tape, fun x hx => ?_, oc_lt g o, g.tapl, ?_⟩⟩ (k1.put (by simp) _)
      · rw [upd_ne (Ne.symm (M1.mne M1.hpr))]; exact hm1
      · rw [upd_ne nd.1.2.2]; exact M1.hsw
      · rw [upd_ne nd.2.1.2]; exact M1.hbb
      · rw [upd_ne nd.2.2.1]; exact M1.htp
      · rw [upd_same]
        show some (HO.lst _) = some (HO.lst (ivs (s.out ++ [oc s o])))
        rw [ivs_append]
        rfl
      · rcases List.mem_append.mp hx with z | z
        · exact g.out x z
        · rw [List.mem_singleton.mp z]
          exact oc_lt g o
      · show (s.out ++ [oc s o]).length ≤ 65537
        rw [List.length_append, List.length_singleton]
        omega
theorem sc60 : FnScope ["machine", "order"] dps (defScope (top 60)) := ⟨rfl, rfl, rfl, by decide +kernel, rfl, by decide +kernel, by decide +kernel⟩
theorem up_last {s : Rc38.Abs} (o : Nat) : upA s o (s.last * 1073741824) = gF s o := by
  unfold upA gF
  split
  · rfl
  · congr 1
    show s.last * 1073741824 / 262144 = s.last * 4096
    omega
theorem ok_F (F : Fun K "store_last_printed" "store_last_printed" (top 60) f fd) (O : Od P w K mg base C) : FnOk P w K mg base (CXx P w) 4 f fd dps (spDeed C any2 gF) := by
  refine F.okx sc60 (fun vs H Q E h => ?_) (fun cdv A outer s0 H vs Q E hr h => ?_)
  · obtain ⟨m, sw, bb, tp, pr, s, o, rfl, _⟩ := h
    rfl
  · obtain ⟨m, sw, bb, tp, pr, s, o, rfl, M, ho, _, k⟩ := h
    obtain ⟨dx, hm⟩ := M.ob
    refine ⟨_, pss_one (ps_expr (pe_kn O.up hr (pa_cons (pv 0) (pa_cons (pv 1) (pa_cons (pe_op op_shl (pe_fld (pv 0) rfl) pe_int) pa_nil))))), ?_⟩
    have hl := M.good.last
    refine ⟨_, rfl, _, rfl, _, rfl, m, C, dx, _, _, rfl, hm, O.T.cl, O.T.nLp, rfl, _, _, rfl, rfl, ⟨by decide, by decide, ?_⟩, m, sw, bb, tp, pr, s, o, s.last * 1073741824, ?_, M, by omega, fun H' M' kp => k H' ?_ (kp.mono (by simp))⟩
    · show (((s.last : Nat) : Int)).natAbs < 18446744073709551616
      omega
    · show [V.ref m, iv o, V.int (((s.last : Nat) : Int) * 1073741824)] = [V.ref m, iv o, V.int ((s.last * 1073741824 : Nat) : Int)]
      rw [Int.natCast_mul]
      rfl
    · rw [← up_last]
      exact M'
theorem sc61 : FnScope ["machine", "order"] dps (defScope (top 61)) := ⟨rfl, rfl, rfl, by decide +kernel, rfl, by decide +kernel, by decide +kernel⟩
theorem ok_Y (F : Fun K "round_off" "round_off" (top 61) f fd) (O : Od P w K mg base C) : FnOk P w K mg base (CXx P w) 4 f fd dps (spDeed C any2 gY) := by
  refine F.okx sc61 (fun vs H Q E h => ?_) (fun cdv A outer s0 H vs Q E hr h => ?_)
  · obtain ⟨m, sw, bb, tp, pr, s, o, rfl, _⟩ := h
    rfl
  · obtain ⟨m, sw, bb, tp, pr, s, o, rfl, M, ho, _, k⟩ := h
    obtain ⟨dx, hm⟩ := M.ob
    refine ⟨_, pss_one (ps_expr (pe_kn O.acc hr (pa_cons (pv 0) (pa_cons (pe_op op_add (pe_fld (pv 0) rfl) (pe_op op_shl pe_int pe_int)) pa_nil)))), ?_⟩
    refine ⟨_, rfl, _, rfl, m, C, dx, _, _, rfl, hm, O.T.cl, O.T.nAc, rfl, _, _, rfl, rfl, ⟨by decide, by decide, by decide⟩, _, _, rfl, rfl, m, sw, bb, tp, pr, s, _, rfl, M, fun H' M' kp => k H' ?_ (kp.mono (by simp))⟩
    have e : gY s o = accA s (accR s + 1 * 2 ^ (35 : Int).toNat) := rfl
    rw [e]
    exact M'
theorem sc62 : FnScope ["machine", "order"] dps (defScope (top 62)) := ⟨rfl, rfl, rfl, by decide +kernel, rfl, by decide +kernel, by decide +kernel⟩
theorem ok_X (F : Fun K "do_nothing" "do_nothing" (top 62) f fd) : FnOk P w K mg base (CXx P w) 1 f fd dps (spDeed C any2 gX) := by
  refine F.okx sc62 (fun vs H Q E h => ?_) (fun cdv A outer s0 H vs Q E hr h => ?_)
  · obtain ⟨m, sw, bb, tp, pr, s, o, rfl, _⟩ := h
    rfl
  · obtain ⟨m, sw, bb, tp, pr, s, o, rfl, M, ho, _, k⟩ := h
    exact ⟨_, pss_one ps_pass, k H M (Kp.refl H _)⟩
theorem sc63 : FnScope ["machine", "order"] dps (defScope (top 63)) := ⟨rfl, rfl, rfl, by decide +kernel, rfl, by decide +kernel, by decide +kernel⟩
theorem ok_Z (F : Fun K "stop" "stop" (top 63) f fd) (T : TM K mg C) : FnOk P w K mg base (CXx P w) 1 f fd dps (spDeed C any2 gZ) := by
  refine F.okx sc63 (fun vs H Q E h => ?_) (fun cdv A outer s0 H vs Q E hr h => ?_)
  · obtain ⟨m, sw, bb, tp, pr, s, o, rfl, _⟩ := h
    rfl
  · obtain ⟨m, sw, bb, tp, pr, s, o, rfl, M, ho, _, k⟩ := h
    obtain ⟨dx, hm⟩ := M.ob
    refine ⟨_, pss_one (ps_fld (pv 0) pe_bl rfl), ?_⟩
    refine ⟨_, rfl, m, C, dx, _, rfl, hm, T.cl, T.nSt, (by show 9 < 1000; decide), ?_⟩
    have ef : putF "stopped" (.bl true) (mf sw bb tp pr s) = mf sw bb tp pr (gZ s o) := rfl
    rw [ef]
    exact k _ (M.setOb dx (good_stop M.good _)) ((Kp.refl H _).put (by simp) _)
end
end My
end

section
set_option Elab.async false
set_option linter.all false
set_option maxRecDepth 100000
set_option maxHeartbeats 4000000
/-! Orders one behind another: what hinders one, and run. -/
namespace My
open PySem PySem.Spec PyProof.Rows L2
/-! ### the dict of the orders -/
def sg (k : Nat) : Str := ⟨#[sgs.getD k 0]⟩
abbrev dkeys : List Key := [.inr "A", .inr "S", .inr "H", .inr "V", .inr "N", .inr "C", .inr "T", .inr "U", .inr "R", .inr "L", .inr "E", .inr "G", .inr "I", .inr "O", .inr "F", .inr "Y", .inr "X", .inr "Z"]
theorem keys_no : ∀ k, k < 32 → isOp k = false → ∀ x ∈ dkeys, ¬ x = .inr (sg k) := by decide +kernel
theorem valV_no {kvs : List (Key × V)} {k : Key} (h : ∀ x ∈ kvs.map (·.1), ¬ x = k) : valV kvs k = none := by
  unfold valV
  rw [List.find?_eq_none.mpr fun kv hkv => ?_]
  · rfl
  · have := h kv.1 (List.mem_map.mpr ⟨kv, hkv, rfl⟩)
    simpa using this
/-- what the deed of order k is called for -/
def Meets (C : Addr) (k : Nat) (sp : Sp) : Prop := ∀ (m sw bb tp pr : Addr) (s : Rc38.Abs) (H : Hp) (Q : VK) (E : XK), Mach C H m sw bb tp pr (nxt s) → Good s → opOf s = k → (k = 8 → s.tape ≠ []) → s.out.length ≤ 65536 →
  (∀ H', Mach C H' m sw bb tp pr (Rc38.step s).1 → Kp H H' (m :: [sw, bb, tp, pr]) → Q .non H') → sp [.ref m, iv (Rc38.short s s.next)] H Q E
section
variable {C : Addr}
theorem meet_of {k : Nat} {pre : Rc38.Abs → Nat → Prop} {g : Rc38.Abs → Nat → Rc38.Abs} (hp : ∀ s, Good s → opOf s = k → (k = 8 → s.tape ≠ []) → s.out.length ≤ 65536 → pre (nxt s) (Rc38.short s s.next))
    (hg : ∀ s, opOf s = k → (k = 8 → s.tape ≠ []) → g (nxt s) (Rc38.short s s.next) = (Rc38.step s).1) : Meets C k (spDeed C pre g) := fun m sw bb tp pr s H Q E M gd hk ht hc h =>
  ⟨m, sw, bb, tp, pr, nxt s, _, rfl, M, short_lt gd gd.next, hp s gd hk ht hc, fun H' M' kp => h H' (by rw [← hg s hk ht]; exact M') kp⟩
theorem meet_A : Meets C 28 (spDeed C any2 gA) := meet_of (fun _ _ _ _ _ => trivial) fun s h _ => by rw [step_A h]; rfl
theorem meet_S : Meets C 12 (spDeed C any2 gS) := meet_of (fun _ _ _ _ _ => trivial) fun s h _ => by rw [step_S h]; rfl
theorem meet_H : Meets C 21 (spDeed C any2 gH) := meet_of (fun _ _ _ _ _ => trivial) fun s h _ => by rw [step_H h]; rfl
theorem meet_V : Meets C 31 (spDeed C any2 gV) := meet_of (fun _ _ _ _ _ => trivial) fun s h _ => by rw [step_V h]; rfl
theorem meet_N : Meets C 22 (spDeed C any2 gN) := meet_of (fun _ _ _ _ _ => trivial) fun s h _ => by rw [step_N h]; rfl
theorem meet_C : Meets C 30 (spDeed C any2 gC) := meet_of (fun _ _ _ _ _ => trivial) fun s h _ => by rw [step_C h]; rfl
theorem meet_T : Meets C 5 (spDeed C any2 gT) := meet_of (fun _ _ _ _ _ => trivial) fun s h _ => by rw [step_T h]; rfl
theorem meet_U : Meets C 7 (spDeed C any2 gU) := meet_of (fun _ _ _ _ _ => trivial) fun s h _ => by rw [step_U h]; rfl
theorem op_pos {s : Rc38.Abs} {k : Nat} (h : opOf s = k + 1) : 0 < Rc38.short s s.next := by
  have h : Rc38.short s s.next / 4096 = k + 1 := h
  omega
theorem meet_R : Meets C 4 (spDeed C pos2 gR) := meet_of (fun _ _ h _ _ => op_pos h) fun s h _ => by rw [step_R h]; rfl
theorem meet_L : Meets C 25 (spDeed C pos2 gL) := meet_of (fun _ _ h _ _ => op_pos h) fun s h _ => by rw [step_L h]; rfl
theorem meet_E : Meets C 3 (spDeed C any2 gE) := meet_of (fun _ _ _ _ _ => trivial) fun s h _ => by rw [step_E h]; rfl
theorem meet_G : Meets C 27 (spDeed C any2 gG) := meet_of (fun _ _ _ _ _ => trivial) fun s h _ => by rw [step_G h]; rfl
theorem meet_I : Meets C 8 (spDeed C tape2 gI) := meet_of (fun _ _ _ h _ => h rfl) fun s h ht => by
  rw [step_I h]
  cases hc : s.tape with
  | nil => exact absurd hc (ht rfl)
  | cons c r =>
    unfold gI inp
    rw [show (nxt s).tape = c :: r from hc, hc]
    rfl
theorem meet_O : Meets C 9 (spDeed C calm2 gO) := meet_of (fun _ _ _ _ h => h) fun s h _ => by rw [step_O h]; rfl
theorem meet_F : Meets C 17 (spDeed C any2 gF) := meet_of (fun _ _ _ _ _ => trivial) fun s h _ => by rw [step_F h]; rfl
theorem meet_Y : Meets C 6 (spDeed C any2 gY) := meet_of (fun _ _ _ _ _ => trivial) fun s h _ => by rw [step_Y h]; rfl
theorem meet_X : Meets C 26 (spDeed C any2 gX) := meet_of (fun _ _ _ _ _ => trivial) fun s h _ => by rw [step_X h]; rfl
theorem meet_Z : Meets C 13 (spDeed C any2 gZ) := meet_of (fun _ _ _ _ _ => trivial) fun s h _ => by rw [step_Z h]; rfl
end
/-- how an order ends -/
theorem step_end {s : Rc38.Abs} (g : Good s) (ho : isOp (opOf s) = true) (ht : opOf s = 8 → s.tape ≠ []) :
    (opOf s = 13 ∧ (Rc38.step s).2 = .halt_ ∧ (Rc38.step s).1.stopped = true) ∨ (opOf s ≠ 13 ∧ (Rc38.step s).2 = .done ∧ (Rc38.step s).1.stopped = s.stopped) := by
  have hop := opn_lt g
  generalize hk' : opOf s = k at ho hop ht
  have key : ∀ k, k < 32 → isOp k = true → k ∈ [28, 12, 21, 31, 22, 5, 7, 30, 4, 25, 3, 27, 8, 9, 17, 26, 6, 13] := by decide
  have hm := key k hop ho
  have pl : ∀ (t : Rc38.Abs) (n : Nat) (l : Bool), (Rc38.stored t n l).stopped = t.stopped := fun t n l => by
    unfold Rc38.stored
    split <;> rfl
  simp only [List.mem_cons, List.not_mem_nil, or_false] at hm
  rcases hm with rfl | rfl | rfl | rfl | rfl | rfl | rfl | rfl | rfl | rfl | rfl | rfl | rfl | rfl | rfl | rfl | rfl | rfl
  · right; rw [step_A hk']; exact ⟨by decide, rfl, rfl⟩
  · right; rw [step_S hk']; exact ⟨by decide, rfl, rfl⟩
  · right; rw [step_H hk']; exact ⟨by decide, rfl, rfl⟩
  · right; rw [step_V hk']; exact ⟨by decide, rfl, rfl⟩
  · right; rw [step_N hk']; exact ⟨by decide, rfl, rfl⟩
  · right; rw [step_T hk']; exact ⟨by decide, rfl, pl _ _ _⟩
  · right; rw [step_U hk']; exact ⟨by decide, rfl, pl _ _ _⟩
  · right; rw [step_C hk']; exact ⟨by decide, rfl, rfl⟩
  · right; rw [step_R hk']; exact ⟨by decide, rfl, rfl⟩
  · right; rw [step_L hk']; exact ⟨by decide, rfl, rfl⟩
  · right; rw [step_E hk']; refine ⟨by decide, rfl, ?_⟩; show (if _ then _ else _ : Rc38.Abs).stopped = _; split <;> rfl
  · right; rw [step_G hk']; refine ⟨by decide, rfl, ?_⟩; show (if _ then _ else _ : Rc38.Abs).stopped = _; split <;> rfl
  · right
    rw [step_I hk']
    unfold inp
    cases hc : s.tape with
    | nil => exact absurd hc (ht rfl)
    | cons c r =>
      refine ⟨by decide, rfl, ?_⟩
      show (if _ then _ else _ : Rc38.Abs).stopped = _
      split <;> rfl
  · right; rw [step_O hk']; exact ⟨by decide, rfl, rfl⟩
  · right; rw [step_F hk']; refine ⟨by decide, rfl, ?_⟩; show (if _ then _ else _ : Rc38.Abs).stopped = _; split <;> rfl
  · right; rw [step_X hk']; exact ⟨by decide, rfl, rfl⟩
  · right; rw [step_Y hk']; exact ⟨by decide, rfl, rfl⟩
  · left; rw [step_Z hk']; exact ⟨rfl, rfl, rfl⟩
section
variable {P : Program} {w : World} {K : PySem.W.Frag} {mg : Str → Option Value} {base : Heap}
/-- a deed that is known -/
def Dd (P : Program) (w : World) (K : PySem.W.Frag) (mg : Str → Option Value) (base : Heap) (f : Addr) (sp : Sp) : Prop :=
  ∃ (fd : FuncData) (n : Nat), n ≤ 5 ∧ PySem.W.keepIn K (.ref f) = true ∧ Binds K fd dps [] ∧ FnOk P w K mg base (CXx P w) n f fd dps sp
/-- the dict DEEDS -/
structure Deeds (P : Program) (w : World) (K : PySem.W.Frag) (mg : Str → Option Value) (base : Heap) (C d : Addr) (kvs : List (Key × V)) : Prop where
  at_ : mg "DEEDS" = some (.ref d)
  md : ModD w K d kvs
  no : ∀ k, k < 32 → isOp k = false → valV kvs (.inr (sg k)) = none
  yes : ∀ k, k < 32 → isOp k = true → ∃ f sp, valV kvs (.inr (sg k)) = some (.ref f) ∧ Dd P w K mg base f sp ∧ Meets C k sp
structure TS (mg : Str → Option Value) : Prop where
  sgn : GS mg "SIGNS" signsS
  mst : GI mg "MOST_STEPS" 1000000
  mun : GI mg "MOST_UNTAKEN" 65536
  all : GI mg "ALL_DONE" 0
  sto : GI mg "STOPPED" 1
  nsi : GI mg "NO_SIGN" 2
  nor : GI mg "NO_ORDER" 3
  tmp : GI mg "TOO_MUCH_PRINTED" 4
  len : mg "len" = none
  rng : mg "range" = none
/-! ### what_hinders -/
def hin (s : Rc38.Abs) (k : Nat) : Nat := if 65536 < s.out.length then 4 else if isOp k = false then 3 else if k = 8 ∧ s.tape = [] then 2 else 0
def spHin (C : Addr) : Sp := fun vs H Q _ => ∃ (m sw bb tp pr : Addr) (s : Rc38.Abs) (k : Nat), vs = [.ref m, .str (sg k)] ∧ Mach C H m sw bb tp pr s ∧ k < 32 ∧ Q (iv (hin s k)) H
theorem scHin : FnScope ["machine", "sign"] ["machine", "sign"] (defScope (top 74)) := ⟨rfl, rfl, rfl, by decide +kernel, rfl, by decide +kernel, by decide +kernel⟩
theorem sg_I : ∀ k, k < 32 → (decide (V.str (sg k) = V.str "I")) = decide (k = 8) := by decide +kernel
theorem ok_hin {f C d : Addr} {fd : FuncData} {kvs : List (Key × V)} (F : Fun K "what_hinders" "what_hinders" (top 74) f fd) (T : TM K mg C) (S : TS mg) (D : Deeds P w K mg base C d kvs) : FnOk P w K mg base (CXx P w) 1 f fd ["machine", "sign"] (spHin C) := by
  refine F.okx scHin (fun vs H Q E h => ?_) (fun cdv A outer s0 H vs Q E hr h => ?_)
  · obtain ⟨m, sw, bb, tp, pr, s, o, rfl, _⟩ := h
    rfl
  · obtain ⟨m, sw, bb, tp, pr, s, k, rfl, M, hk, q⟩ := h
    obtain ⟨dx, hm⟩ := M.ob
    refine ⟨_, pss_cons (ps_if (pt_cmpR op_gt (pe_callB call_len_seq rfl S.len PySem.boot_len (pa_cons (pe_fld (pv 0) rfl) pa_nil)) (pe_gi S.mun) (nomark _)) (pss_one (ps_ret (pe_gi S.tmp))) pss_nil)
      (pss_cons (ps_if (pt_cmp (pc_mnotin D.md (pv 1) (pe_glob rfl D.at_ (v := .ref d) rfl))) (pss_one (ps_ret (pe_gi S.nor))) pss_nil)
      (pss_cons (ps_if (PW.pt (pw_and (pt_cmpR op_eq (pv 1) pe_str (nomark _)) (pw_and1 (pt_cmpR op_eq (pe_callB call_len_seq rfl S.len PySem.boot_len (pa_cons (pe_fld (pv 0) rfl) pa_nil)) pe_int (nomark _))))) (pss_one (ps_ret (pe_gi S.nsi))) pss_nil)
      (pss_one (ps_ret (pe_gi S.all))))), ?_⟩
    have fin : ∀ z : Nat, z = hin s k → Q (iv z) H := fun z e => by rw [e]; exact q
    refine ⟨_, rfl, m, C, dx, _, _, rfl, hm, T.cl, T.nPr, rfl, pr, _, rfl, .inl (SqL.of M.hpr), _, _, rfl, rfl, _, rfl, ite2 (fun e => ?_) (fun e => ?_)⟩
    · have e0 : (65536 : Int) < (((ivs s.out).length : Nat) : Int) := of_decide_eq_true e
      rw [List.length_map] at e0
      exact fin 4 (if_pos (by omega)).symm
    · have e0 : ¬ 65536 < s.out.length := fun z => e (decide_eq_true (show (65536 : Int) < (((ivs s.out).length : Nat) : Int) by rw [List.length_map]; omega))
      have h0 : hin s k = if isOp k = false then 3 else if k = 8 ∧ s.tape = [] then 2 else 0 := if_neg e0
      rw [h0] at fin
      refine ⟨_, rfl, .inr (sg k), rfl, rfl, _, rfl, ?_⟩
      cases hop : isOp k with
      | false =>
        rw [D.no k hk hop]
        exact iteT (fin 3 (if_pos hop).symm)
      | true =>
        obtain ⟨fa, sp, hv, _⟩ := D.yes k hk hop
        rw [hv]
        rw [if_neg (by rw [hop]; decide)] at fin
        refine iteF ⟨_, rfl, rfl, _, rfl, ?_⟩
        rw [sg_I k hk]
        refine ite2 (fun e8 => ?_) (fun e8 => ?_)
        · have e8 : k = 8 := of_decide_eq_true e8
          refine ⟨_, rfl, m, C, dx, _, _, rfl, hm, T.cl, T.nTp, rfl, tp, _, rfl, .inl (SqL.of M.htp), rfl, _, rfl, ite2 (fun et => ?_) (fun et => ?_)⟩
          · have et : V.int (((ivs s.tape).length : Nat) : Int) = V.int 0 := of_decide_eq_true et
            have et := V.int.inj et
            rw [List.length_map] at et
            have : s.tape = [] := List.eq_nil_of_length_eq_zero (by omega)
            exact fin 2 (if_pos ⟨e8, this⟩).symm
          · refine fin 0 (if_neg fun z => et (decide_eq_true ?_)).symm
            rw [z.2]
            rfl
        · have e8 : ¬ k = 8 := fun z => e8 (decide_eq_true z)
          exact iteF (fin 0 (if_neg fun z => e8 z.1).symm)
/-! ### run -/
def spRun (C : Addr) : Sp := fun vs H Q _ => ∃ (m sw bb tp pr : Addr) (s : Rc38.Abs) (n : Int), vs = [.ref m, .int n] ∧ Mach C H m sw bb tp pr s ∧ LPost C H m [sw, bb, tp, pr] (stp s [[5, n]]) Q
theorem scRun : FnScope ["machine", "steps", "done", "order", "sign", "hindrance"] ["machine", "steps"] (defScope (top 73)) := ⟨rfl, rfl, rfl, by decide +kernel, rfl, by decide +kernel, by decide +kernel⟩
theorem stp_run (s : Rc38.Abs) (n : Int) : stp s [[5, n]] = if n < 0 ∨ 1000000 < n then (s, [-1]) else ((Rc38.run n.toNat s).1, [(Rc38.run n.toNat s).2.1, ((Rc38.run n.toNat s).2.2 : Int)]) := by
  show ((Rc38.does s (.run n)).1, (Rc38.does s (.run n)).2.value :: (Rc38.does s (.run n)).2.numbers.map fun (b : Nat) => (b : Int)) = _
  have e : Rc38.does s (.run n) = if n < 0 ∨ 1000000 < n then (s, Rc38.refused) else ((Rc38.run n.toNat s).1, { value := (Rc38.run n.toNat s).2.1, numbers := [(Rc38.run n.toNat s).2.2] }) := rfl
  rw [e]
  split <;> rfl
theorem sgs_len : sgs.length = 32 := by decide
theorem sg_at {k : Nat} (hk : k < 32) {i : Int} (hi : i = (k : Int)) : atI signsS.cps.toList i = some (sgs.getD k 0) := by
  subst hi
  refine atI_nat ?_
  rw [sgs_cps, List.getD_eq_getElem?_getD, List.getElem?_eq_getElem (by rw [sgs_len]; exact hk)]
  rfl
theorem rd_stop {σ : L2.St} {H : Hp} {m C dx : Addr} {fs : List (Str × V)} {N : Int} {b : Bool} {R : Bool → Hp → Prop} (h0 : σ[0]? = some (some (.ref m))) (h1 : σ[1]? = some (some (.int N))) (hm : H m = some (.ins C dx fs)) (cl : Cls K C) (na : NoAttr K C "stopped") (hf : List.lookup (α := Str) (β := V) "stopped" fs = some (V.bl b))
    (h : R (b && decide (0 < N)) H) : tAnd (tB (tFld K (tVar 0) "stopped")) (tTest (tOp (rI0 fun i j => .bl (decide (j < i))) (tVar 1) (tC (.int 0)))) σ H R := by
  refine ⟨_, h0, m, C, dx, _, _, rfl, hm, cl, na, hf, _, rfl, ?_⟩
  cases b with
  | false => exact iteF h
  | true => exact iteT ⟨_, h1, _, _, rfl, rfl, _, rfl, h⟩
theorem hin_run {t : Rc38.Abs} (g : Good t) (hs : t.stopped = false) (h : hin t (opOf t) ≠ 0) (j : Nat) : Rc38.run (j + 1) t = (t, ((hin t (opOf t) : Nat) : Int), 0) := by
  unfold hin at h ⊢
  by_cases h1 : 65536 < t.out.length
  · rw [if_pos h1, run_calm hs h1]
    rfl
  · rw [if_neg h1] at h ⊢
    rw [run_step hs (by omega)]
    by_cases h2 : isOp (opOf t) = false
    · rw [if_pos h2, step_no (opn_lt g) h2]
      rfl
    · rw [if_neg h2] at h ⊢
      by_cases h3 : opOf t = 8 ∧ t.tape = []
      · rw [if_pos h3, step_I h3.1]
        unfold inp
        rw [h3.2]
        rfl
      · rw [if_neg h3] at h
        exact absurd rfl h
theorem hin_zero {t : Rc38.Abs} {k : Nat} (h : hin t k = 0) : t.out.length ≤ 65536 ∧ isOp k = true ∧ (k = 8 → t.tape ≠ []) := by
  unfold hin at h
  by_cases h1 : 65536 < t.out.length
  · rw [if_pos h1] at h
    cases h
  · rw [if_neg h1] at h
    by_cases h2 : isOp k = false
    · rw [if_pos h2] at h
      cases h
    · rw [if_neg h2] at h
      by_cases h3 : k = 8 ∧ t.tape = []
      · rw [if_pos h3] at h
        cases h
      · exact ⟨by omega, by simpa using h2, fun z y => h3 ⟨z, y⟩⟩
theorem run_halt {t : Rc38.Abs} (hs : t.stopped = false) (hc : t.out.length ≤ 65536) (h : (Rc38.step t).2 = .halt_) (j : Nat) : Rc38.run (j + 1) t = ((Rc38.step t).1, 1, 1) := by
  rw [run_step hs hc]
  generalize Rc38.step t = y at h
  obtain ⟨a, b⟩ := y
  have h : b = .halt_ := h
  subst h
  rfl
theorem run_done {t : Rc38.Abs} (hs : t.stopped = false) (hc : t.out.length ≤ 65536) (h : (Rc38.step t).2 = .done) (j : Nat) : Rc38.run (j + 1) t = ((Rc38.run j (Rc38.step t).1).1, (Rc38.run j (Rc38.step t).1).2.1, (Rc38.run j (Rc38.step t).1).2.2 + 1) := by
  rw [run_step hs hc]
  generalize Rc38.step t = y at h
  obtain ⟨a, b⟩ := y
  have h : b = .done := h
  subst h
  rfl
theorem ok_run {f C d : Addr} {fd : FuncData} {kvs : List (Key × V)} (F : Fun K "run" "run" (top 73) f fd) (T : TM K mg C) (S : TS mg) (D : Deeds P w K mg base C d kvs) (KH : Kn P w K mg base 1 "what_hinders" ["machine", "sign"] (spHin C)) :
    FnOk P w K mg base (CXx P w) 6 f fd ["machine", "steps"] (spRun C) := by
  refine F.okx scRun (fun vs H Q E h => ?_) (fun cdv A outer s0 H vs Q E hr h => ?_)
  · obtain ⟨m, sw, bb, tp, pr, s, o, rfl, _⟩ := h
    rfl
  · obtain ⟨m, sw, bb, tp, pr, s, n, rfl, M, q⟩ := h
    obtain ⟨dx, hm⟩ := M.ob
    rw [stp_run] at q
    refine ⟨_, pss_cons (ps_if (pt_not (pt_chain op_le op_le pe_int (pv 1) (pe_gi S.mst))) (pss_one (ps_ret (pe_lst (pa_cons (pe_gi T.ref) pa_nil)))) pss_nil)
      (pss_cons (ps_if (PW.pt (pw_and (pt_val (pe_fld (pv 0) rfl)) (pw_and1 (pt_cmpR op_gt (pv 1) pe_int (nomark _))))) (pss_one (ps_ret (pe_lst (pa_cons (pe_gi S.sto) (pa_cons pe_int pa_nil))))) pss_nil)
      (pss_cons (ps_for own_def rfl (pi_range1 rfl S.rng (pa_cons (pv 1) pa_nil)) (pg_name (i := 2) scRun.nd rfl (Or.inl rfl))
        (pss_cons (ps_set (i := 3) scRun.nd rfl (Or.inl rfl) (pe_ix ix_list (pe_fld (pv 0) rfl) (pe_fld (pv 0) rfl) (fun _ _ => rfl)))
        (pss_cons (ps_set (i := 4) scRun.nd rfl (Or.inl rfl) (pe_ix ix_str (pe_gs S.sgn) (pe_op op_shr (pv 3) pe_int) (fun _ _ => rfl)))
        (pss_cons (ps_set (i := 5) scRun.nd rfl (Or.inl rfl) (pe_kn KH hr (pa_cons (pv 0) (pa_cons (pv 4) pa_nil))))
        (pss_cons (ps_if (pt_cmpR op_ne (pv 5) (pe_gi S.all) (nomark _)) (pss_one (ps_ret (pe_lst (pa_cons (pv 5) (pa_cons (pv 2) pa_nil))))) pss_nil)
        (pss_cons (ps_fld (pv 0) (pe_op op_mod (pe_op op_add (pe_fld (pv 0) rfl) pe_int) (pe_gi T.pla)) rfl)
        (pss_cons (ps_expr (pe_callE (D := Dd P w K mg base) (E := E0) (fun f sp h => ?_) (pe_mget D.md (pe_glob rfl D.at_ (v := .ref d) rfl) (pv 4) (by intro _ _; rfl)) (pa_cons (pv 0) (pa_cons (pv 3) pa_nil))))
        (pss_one (ps_if (pt_val (pe_fld (pv 0) rfl)) (pss_one (ps_ret (pe_lst (pa_cons (pe_gi S.sto) (pa_cons (pe_op op_add (pv 2) pe_int) pa_nil))))) pss_nil)))))))))
      (pss_one (ps_ret (pe_lst (pa_cons (pe_gi S.all) (pa_cons (pv 1) pa_nil))))))), ?_⟩
    · obtain ⟨fd, n, hn, hk, hb, G⟩ := h
      exact ⟨hk, CXx P w, fd, dps, n, G, hr.mono hn, hb, passes0⟩
    refine rd_in rfl (iteN (fun h1 => ?_) (fun h1 => ?_))
    · rw [if_pos (by omega)] at q
      exact ⟨by show 1 ≤ sizeLine; decide, q.lay M (Kp.refl H _) (fun b hb => .inl hb) rfl⟩
    · rw [if_neg (by omega)] at q
      have en : n = ((n.toNat : Nat) : Int) := by omega
      generalize n.toNat = N at q en
      subst en
      refine rd_stop rfl rfl hm T.cl T.nSt rfl (ite2 (fun e => ?_) (fun e => ?_))
      · have e1 : s.stopped = true ∧ decide ((0 : Int) < (N : Int)) = true := by simpa using e
        have e2 : (0 : Int) < (N : Int) := of_decide_eq_true e1.2
        obtain ⟨j, rfl⟩ : ∃ j, N = j + 1 := ⟨N - 1, by omega⟩
        rw [run_stop e1.1] at q
        exact ⟨by show 2 ≤ sizeLine; decide, q.lay M (Kp.refl H _) (fun b hb => .inl hb) rfl⟩
      · have hst0 : 0 < N → s.stopped = false := fun z => by
          cases hs : s.stopped with
          | false => rfl
          | true =>
            refine absurd ?_ e
            rw [hs, decide_eq_true (show (0 : Int) < (N : Int) by omega)]
            rfl
        refine ⟨_, rfl, (N : Int), rfl, by omega, by omega, for_range (n := N) (fun i σ H' => ∃ (t : Rc38.Abs) (v2 v3 v4 v5 : Option V), σ = [some (.ref m), some (iv N), v2, v3, v4, v5] ∧ Mach C H' m sw bb tp pr t ∧ Kp H H' (m :: [sw, bb, tp, pr]) ∧ (i < N → t.stopped = false) ∧
          Rc38.run N s = ((Rc38.run (N - i) t).1, (Rc38.run (N - i) t).2.1, (Rc38.run (N - i) t).2.2 + i)) ⟨s, none, none, none, none, rfl, M, Kp.refl H _, hst0, rfl⟩ ?_ ?_⟩
        · rintro i σ H1 hi ⟨t, v2, v3, v4, v5, rfl, M1, k1, hst, hrun⟩
          have hst := hst hi
          obtain ⟨j, hj⟩ : ∃ j, N - i = j + 1 := ⟨N - i - 1, by omega⟩
          rw [hj] at hrun
          obtain ⟨dx1, hm1⟩ := M1.ob
          have hsh := short_lt M1.good M1.good.next
          have hk := opn_lt M1.good
          refine ⟨_, rfl, m, C, dx1, _, _, rfl, hm1, T.cl, T.nSw, rfl, _, rfl, m, C, dx1, _, _, rfl, hm1, T.cl, T.nNx, rfl, sw, _, _, _, rfl, rfl, SqL.of M1.hsw, sw_at rfl M1.good.next, ?_⟩
          refine ⟨_, rfl, _, _, rfl, rfl, (show (0 : Int) ≤ 12 by decide), _, _, _, rfl, rfl, (by rw [sizeLine_eq]; decide), sg_at hk (by show (_ : Int) / 4096 = _; show ((Rc38.short t t.next : Nat) : Int) / 4096 = ((Rc38.short t t.next / 4096 : Nat) : Int); omega), ?_⟩
          refine ⟨_, rfl, _, rfl, m, sw, bb, tp, pr, t, opOf t, rfl, M1, hk, ?_⟩
          refine ⟨_, rfl, rfl, _, rfl, ite2 (fun e => ?_) (fun e => ?_)⟩
          · have eh : hin t (opOf t) ≠ 0 := fun z => by
              rw [z] at e
              exact absurd e (by decide)
            rw [hin_run M1.good hst eh] at hrun
            rw [hrun] at q
            refine ⟨_, rfl, _, rfl, by show 2 ≤ sizeLine; decide, q.lay M1 k1 (fun b hb => .inl hb) ?_⟩
            show [_, V.int (0 + (i : Int))] = [_, V.int ((0 + i : Nat) : Int)]
            rw [Int.natCast_add]
            rfl
          · have eh : hin t (opOf t) = 0 := by
              by_cases z : hin t (opOf t) = 0
              · exact z
              · refine absurd ?_ e
                have : decide (iv (hin t (opOf t)) = V.int 0) = false := decide_eq_false fun y => by
                  have := V.int.inj y
                  omega
                show (!decide (iv (hin t (opOf t)) = V.int 0)) = true
                rw [this]
                rfl
            obtain ⟨hcalm, hop, h8⟩ := hin_zero eh
            obtain ⟨fa, sp, hv, hD, hmeet⟩ := D.yes _ hk hop
            refine ⟨_, rfl, m, C, dx1, _, _, rfl, hm1, T.cl, T.nNx, rfl, _, _, rfl, rfl, _, _, rfl, rfl, (show (0 : Int) < 1024 by decide), _, rfl, m, C, dx1, _, rfl, hm1, T.cl, T.nNx, (by show 9 < 1000; decide), ?_⟩
            have ef : putF "next_place" (V.int ((((t.next : Nat) : Int) + 1) % 1024)) (mf sw bb tp pr t) = mf sw bb tp pr (nxt t) := by
              have e1 : V.int ((((t.next : Nat) : Int) + 1) % 1024) = iv ((t.next + 1) % 1024) := by
                show V.int _ = V.int _
                congr 1
              rw [e1]
              rfl
            rw [show ((fun (i j : Int) => V.int (i % j)) (((t.next : Nat) : Int) + 1) 1024 : V) = V.int ((((t.next : Nat) : Int) + 1) % 1024) from rfl, ef]
            have M2 := M1.setOb (s' := nxt t) dx1 (good_nxt M1.good)
            have k2 : Kp H (upd H1 m (.ins C dx1 (mf sw bb tp pr (nxt t)))) (m :: [sw, bb, tp, pr]) := k1.put (by simp) _
            refine ⟨rfl, _, rfl, .inr (sg (opOf t)), .ref fa, rfl, hv, fa, sp, rfl, hD, _, rfl, _, rfl, hmeet m sw bb tp pr t _ _ _ M2 M1.good rfl h8 hcalm (fun H3 M3 k3 => ?_)⟩
            have k4 := k2.trans k3
            obtain ⟨dx3, hm3⟩ := M3.ob
            refine ⟨_, rfl, m, C, dx3, _, _, rfl, hm3, T.cl, T.nSt, rfl, _, rfl, ite2 (fun es => ?_) (fun es => ?_)⟩
            · rcases step_end M1.good hop h8 with ⟨_, he, _⟩ | ⟨_, _, hz⟩
              · rw [run_halt hst hcalm he] at hrun
                rw [hrun] at q
                refine ⟨_, rfl, _, _, rfl, rfl, by show 2 ≤ sizeLine; decide, q.lay M3 k4 (fun b hb => .inl hb) ?_⟩
                show [_, V.int (0 + (i : Int) + 1)] = [_, V.int ((1 + i : Nat) : Int)]
                congr 3
                omega
              · rw [hz, hst] at es
                cases es
            · rcases step_end M1.good hop h8 with ⟨_, _, hz⟩ | ⟨_, he, hz⟩
              · exact absurd hz es
              · rw [run_done hst hcalm he] at hrun
                refine ⟨(Rc38.step t).1, _, _, _, _, rfl, M3, k4, fun _ => by rw [hz]; exact hst, ?_⟩
                rw [show N - (i + 1) = j by omega, hrun]
                congr 2
                show (Rc38.run j (Rc38.step t).1).2.2 + 1 + i = (Rc38.run j (Rc38.step t).1).2.2 + (i + 1)
                omega
        · rintro σ H1 ⟨t, v2, v3, v4, v5, rfl, M1, k1, _, hrun⟩
          rw [Nat.sub_self, run_zero] at hrun
          rw [hrun] at q
          refine ⟨_, rfl, by show 2 ≤ sizeLine; decide, q.lay M1 k1 (fun b hb => .inl hb) ?_⟩
          show [_, V.int ((N : Nat) : Int)] = [_, V.int ((0 + N : Nat) : Int)]
          rw [Nat.zero_add]
end
end My
end

section
set_option Elab.async false
set_option linter.all false
set_option maxRecDepth 100000
set_option maxHeartbeats 4000000
/-! begin, the reader, the loop over the calls. -/
namespace My
open PySem PySem.Spec PyProof.Rows L2
section
variable {P : Program} {w : World} {K : PySem.W.Frag} {mg : Str → Option Value} {base : Heap}
/-! ### begin, __init__ -/
def spBegin (C : Addr) : Sp := fun vs H Q _ => ∃ (m dx : Addr) (fs : List (Str × V)), vs = [.ref m] ∧ H m = some (.ins C dx fs) ∧ (fs = [] ∨ ∃ sw bb tp pr s, fs = mf sw bb tp pr s) ∧
  ∀ (H' : Hp) (sw bb tp pr : Addr), Mach C H' m sw bb tp pr {} → Kp H H' [m] → (∀ b ∈ [sw, bb, tp, pr], H b = none) → Q (.int 0) H'
theorem scBg : FnScope ["self"] ["self"] (defScope (sM 1)) := ⟨rfl, rfl, rfl, by decide +kernel, rfl, by decide +kernel, by decide +kernel⟩
theorem rep0 (k : Nat) : (List.replicate k [V.int 0]).flatten = ivs (List.replicate k 0) := by
  induction k with
  | zero => rfl
  | succ k ih =>
    rw [List.replicate_succ, List.flatten_cons, ih, List.replicate_succ]
    rfl
/-- an object that is being filled, with the new lists that it holds -/
structure BS (C : Addr) (H0 : Hp) (m dx : Addr) (fs : List (Str × V)) (ls : List (Addr × List V)) (H : Hp) : Prop where
  ob : H m = some (.ins C dx fs)
  at_ : ∀ p ∈ ls, H p.1 = some (.lst p.2) ∧ p.1 ≠ m ∧ H0 p.1 = none
  nd : (ls.map (·.1)).Nodup
  kp : Kp H0 H [m]
theorem BS.old {C : Addr} {H0 H : Hp} {m dx : Addr} {fs : List (Str × V)} {ls : List (Addr × List V)} (B : BS C H0 m dx fs ls H) {a : Addr} (n : H a = none) : a ≠ m ∧ H0 a = none := by
  have h1 : a ≠ m := fun z => by rw [z, B.ob] at n; cases n
  refine ⟨h1, ?_⟩
  cases z : H0 a with
  | none => rfl
  | some o => rw [B.kp.keep a o z (by simpa using h1)] at n; cases n
theorem BS.junk {C : Addr} {H0 H : Hp} {m dx : Addr} {fs : List (Str × V)} {ls : List (Addr × List V)} (B : BS C H0 m dx fs ls H) {a : Addr} (n : H a = none) (o : HO) : BS C H0 m dx fs ls (upd H a o) :=
  ⟨by rw [upd_ne (Ne.symm (B.old n).1)]; exact B.ob, fun p hp => ⟨by rw [upd_ne (ne_of_none (B.at_ p hp).1 n)]; exact (B.at_ p hp).1, (B.at_ p hp).2⟩, B.nd, B.kp.new n o⟩
theorem BS.new {C : Addr} {H0 H : Hp} {m dx : Addr} {fs : List (Str × V)} {ls : List (Addr × List V)} (B : BS C H0 m dx fs ls H) {a : Addr} (n : H a = none) (xs : List V) : BS C H0 m dx fs (ls ++ [(a, xs)]) (upd H a (.lst xs)) := by
  have J := B.junk n (.lst xs)
  refine ⟨J.ob, fun p hp => ?_, ?_, J.kp⟩
  · rcases List.mem_append.mp hp with z | z
    · exact J.at_ p z
    · have e := List.mem_singleton.mp z
      subst e
      exact ⟨upd_same, (B.old n).1, (B.old n).2⟩
  · rw [List.map_append]
    refine nd_snoc B.nd fun z => ?_
    obtain ⟨p, hp, e⟩ := List.mem_map.mp z
    have h1 := (B.at_ p hp).1
    have e' : p.1 = a := e
    rw [e', n] at h1
    cases h1
theorem BS.fld {C : Addr} {H0 H : Hp} {m dx : Addr} {fs : List (Str × V)} {ls : List (Addr × List V)} (B : BS C H0 m dx fs ls H) (fs' : List (Str × V)) : BS C H0 m dx fs' ls (upd H m (.ins C dx fs')) :=
  ⟨upd_same, fun p hp => ⟨by rw [upd_ne (B.at_ p hp).2.1]; exact (B.at_ p hp).1, (B.at_ p hp).2⟩, B.nd, B.kp.put (by simp) _⟩
theorem ok_begin {f C : Addr} {fd : FuncData} (F : Fun K "begin" "Machine.begin" (sM 1) f fd) (T : TM K mg C) : FnOk P w K mg base (CXx P w) 1 f fd ["self"] (spBegin C) := by
  refine F.okx scBg (fun vs H Q E h => ?_) (fun cdv A outer s0 H vs Q E hr h => ?_)
  · obtain ⟨m, dx, fs, rfl, _⟩ := h
    rfl
  · obtain ⟨m, dx, fs, rfl, hm, hfs, k⟩ := h
    refine ⟨_, pss_cons (ps_fld (pv 0) (pe_op op_rep (pe_lst (pa_cons pe_int pa_nil)) (pe_gi T.pla)) rfl)
      (pss_cons (ps_fld (pv 0) (pe_op op_rep (pe_lst (pa_cons pe_int pa_nil)) (pe_gi T.pai)) rfl)
      (pss_cons (ps_fld (pv 0) pe_int rfl) (pss_cons (ps_fld (pv 0) pe_int rfl) (pss_cons (ps_fld (pv 0) pe_int rfl)
      (pss_cons (ps_fld (pv 0) (pe_lst pa_nil) rfl) (pss_cons (ps_fld (pv 0) (pe_lst pa_nil) rfl)
      (pss_cons (ps_fld (pv 0) pe_int rfl) (pss_cons (ps_fld (pv 0) pe_bl rfl) (pss_one (ps_ret pe_int)))))))))), ?_⟩
    have hfl : fs.length ≤ 9 := by
      rcases hfs with rfl | ⟨_, _, _, _, _, rfl⟩
      · exact Nat.zero_le _
      · exact Nat.le_refl 9
    have len : ∀ (f : Str) (v : V) {l : List (Str × V)} {n : Nat}, l.length ≤ n → (putF f v l).length ≤ n + 1 := fun f v l n h => Nat.le_trans (length_putF f v l) (by omega)
    have B0 : BS C H m dx fs [] H := ⟨hm, fun p hp => absurd hp (by simp), List.nodup_nil, Kp.refl H _⟩
    refine ⟨by show 1 ≤ sizeLine; decide, fun q1 hq1 => ⟨q1, _, _, rfl, rfl, upd_same, by decide, by decide, by decide, fun sw hsw => ?_⟩⟩
    have B1 := (B0.junk hq1 (.lst [.int 0])).new hsw (List.replicate ((1024 : Int).toNat) [V.int 0]).flatten
    refine ⟨_, rfl, m, C, dx, _, rfl, B1.ob, T.cl, T.nSw, by omega, ?_⟩
    have l1 := len "short_words" (.ref sw) hfl
    have B2 := B1.fld (putF "short_words" (.ref sw) fs)
    refine ⟨by show 1 ≤ sizeLine; decide, fun q2 hq2 => ⟨q2, _, _, rfl, rfl, upd_same, by decide, by decide, by decide, fun bb hbb => ?_⟩⟩
    have B3 := (B2.junk hq2 (.lst [.int 0])).new hbb (List.replicate ((512 : Int).toNat) [V.int 0]).flatten
    refine ⟨_, rfl, m, C, dx, _, rfl, B3.ob, T.cl, T.nBb, by omega, ?_⟩
    have l2 := len "bits_between" (.ref bb) l1
    have B4 := B3.fld (putF "bits_between" (.ref bb) (putF "short_words" (.ref sw) fs))
    refine ⟨_, rfl, m, C, dx, _, rfl, B4.ob, T.cl, T.nAc, by omega, ?_⟩
    have l3 := len "accumulator" (.int 0) l2
    have B5 := B4.fld (putF "accumulator" (.int 0) (putF "bits_between" (.ref bb) (putF "short_words" (.ref sw) fs)))
    refine ⟨_, rfl, m, C, dx, _, rfl, B5.ob, T.cl, T.nMu, by omega, ?_⟩
    have l4 := len "multiplier" (.int 0) l3
    have B6 := B5.fld (putF "multiplier" (.int 0) (putF "accumulator" (.int 0) (putF "bits_between" (.ref bb) (putF "short_words" (.ref sw) fs))))
    refine ⟨_, rfl, m, C, dx, _, rfl, B6.ob, T.cl, T.nNx, by omega, ?_⟩
    have l5 := len "next_place" (.int 0) l4
    have B7 := B6.fld (putF "next_place" (.int 0) (putF "multiplier" (.int 0) (putF "accumulator" (.int 0) (putF "bits_between" (.ref bb) (putF "short_words" (.ref sw) fs)))))
    refine ⟨by show 0 ≤ sizeLine; decide, fun tp htp => ?_⟩
    have B8 := B7.new htp []
    refine ⟨_, rfl, m, C, dx, _, rfl, B8.ob, T.cl, T.nTp, by omega, ?_⟩
    have l6 := len "tape" (.ref tp) l5
    have B9 := B8.fld (putF "tape" (.ref tp) (putF "next_place" (.int 0) (putF "multiplier" (.int 0) (putF "accumulator" (.int 0) (putF "bits_between" (.ref bb) (putF "short_words" (.ref sw) fs))))))
    refine ⟨by show 0 ≤ sizeLine; decide, fun pr hpr => ?_⟩
    have B10 := B9.new hpr []
    refine ⟨_, rfl, m, C, dx, _, rfl, B10.ob, T.cl, T.nPr, by omega, ?_⟩
    have l7 := len "printed" (.ref pr) l6
    have B11 := B10.fld (putF "printed" (.ref pr) (putF "tape" (.ref tp) (putF "next_place" (.int 0) (putF "multiplier" (.int 0) (putF "accumulator" (.int 0) (putF "bits_between" (.ref bb) (putF "short_words" (.ref sw) fs)))))))
    refine ⟨_, rfl, m, C, dx, _, rfl, B11.ob, T.cl, T.nLp, by omega, ?_⟩
    have l8 := len "last_printed" (.int 0) l7
    have B12 := B11.fld (putF "last_printed" (.int 0) (putF "printed" (.ref pr) (putF "tape" (.ref tp) (putF "next_place" (.int 0) (putF "multiplier" (.int 0) (putF "accumulator" (.int 0) (putF "bits_between" (.ref bb) (putF "short_words" (.ref sw) fs))))))))
    refine ⟨_, rfl, m, C, dx, _, rfl, B12.ob, T.cl, T.nSt, by omega, ?_⟩
    have B13 := B12.fld (putF "stopped" (.bl false) (putF "last_printed" (.int 0) (putF "printed" (.ref pr) (putF "tape" (.ref tp) (putF "next_place" (.int 0) (putF "multiplier" (.int 0) (putF "accumulator" (.int 0) (putF "bits_between" (.ref bb) (putF "short_words" (.ref sw) fs)))))))))
    have ef : putF "stopped" (.bl false) (putF "last_printed" (.int 0) (putF "printed" (.ref pr) (putF "tape" (.ref tp) (putF "next_place" (.int 0) (putF "multiplier" (.int 0) (putF "accumulator" (.int 0) (putF "bits_between" (.ref bb) (putF "short_words" (.ref sw) fs)))))))) = mf sw bb tp pr {} := by
      rcases hfs with rfl | ⟨_, _, _, _, _, rfl⟩ <;> rfl
    rw [ef] at B13
    have a1 := B13.at_ (sw, _) (List.Mem.head _)
    have a2 := B13.at_ (bb, _) (List.Mem.tail _ (List.Mem.head _))
    have a3 := B13.at_ (tp, _) (List.Mem.tail _ (List.Mem.tail _ (List.Mem.head _)))
    have a4 := B13.at_ (pr, _) (List.Mem.tail _ (List.Mem.tail _ (List.Mem.tail _ (List.Mem.head _))))
    have hsw1 := a1.1
    have hbb1 := a2.1
    have htp1 := a3.1
    have hpr1 := a4.1
    rw [rep0] at hsw1 hbb1
    have nd := B13.nd
    refine k _ sw bb tp pr ⟨⟨dx, by rw [ef]; exact B13.ob⟩, ?_, ?_, ?_, ?_, nd, good0⟩ (by rw [ef]; exact B13.kp) fun b hb => ?_
    · rw [shorts0, ef]; exact hsw1
    · rw [betws0, ef]; exact hbb1
    · rw [ef]; exact htp1
    · rw [ef]; exact hpr1
    · simp only [List.mem_cons, List.not_mem_nil, or_false] at hb
      rcases hb with rfl | rfl | rfl | rfl
      · exact a1.2.2
      · exact a2.2.2
      · exact a3.2.2
      · exact a4.2.2

def spInit (C : Addr) : Sp := fun vs H Q _ => ∃ (m dx : Addr), vs = [.ref m] ∧ H m = some (.ins C dx []) ∧
  ∀ (H' : Hp) (sw bb tp pr : Addr), Mach C H' m sw bb tp pr {} → Kp H H' [m] → (∀ b ∈ [sw, bb, tp, pr], H b = none) → Q .non H'
theorem scIn : FnScope ["self"] ["self"] (defScope (sM 0)) := ⟨rfl, rfl, rfl, by decide +kernel, rfl, by decide +kernel, by decide +kernel⟩
theorem ok_init {f C fB : Addr} {fd fdB : FuncData} (F : Fun K "__init__" "Machine.__init__" (sM 0) f fd) (T : TM K mg C) (FB : Fun K "begin" "Machine.begin" (sM 1) fB fdB) (bB : Binds K fdB ["self"] []) (mB : Meth K C "begin" fB) :
    FnOk P w K mg base (CXx P w) 2 f fd ["self"] (spInit C) := by
  have GB : FnOk P w K mg base (CXx P w) 1 fB fdB ["self"] (spBegin C) := ok_begin FB T
  refine F.okx scIn (fun vs H Q E h => ?_) (fun cdv A outer s0 H vs Q E hr h => ?_)
  · obtain ⟨m, dx, rfl, _⟩ := h
    rfl
  · obtain ⟨m, dx, rfl, hm, k⟩ := h
    refine ⟨_, pss_one (ps_expr (pe_meth0 (pv 0) T.cl mB GB hr bB .nil passes0)), ?_⟩
    exact ⟨_, rfl, m, dx, [], rfl, hm, rfl, m, dx, [], rfl, hm, .inl rfl, fun H' sw bb tp pr M kp fr => k H' sw bb tp pr M kp fr⟩
/-! ### the reader -/
abbrev sR (j : Nat) : Stmt := inClass (top 86) j
structure TR (K : PySem.W.Frag) (mg : Str → Option Value) (C : Addr) : Prop where
  cl : Cls K C
  nNu : NoAttr K C "numbers"
  nPo : NoAttr K C "position"
  len : mg "len" = none
def rf (a : Addr) (pos : Nat) : List (Str × V) := [("numbers", .ref a), ("position", iv pos)]
def RdAt (C : Addr) (H : Hp) (r a : Addr) (pos : Nat) : Prop := ∃ dx, H r = some (.ins C dx (rf a pos))
theorem ints_get {l : List Int} {i : Nat} {z : Int} (h : l[i]? = some z) : (l.map V.int)[i]? = some (V.int z) := by rw [List.getElem?_map, h]; rfl
def spRI (C : Addr) : Sp := fun vs H Q _ => ∃ (r dx a : Addr), vs = [.ref r, .ref a] ∧ H r = some (.ins C dx []) ∧ ∀ H', RdAt C H' r a 0 → Kp H H' [r] → Q .non H'
theorem scRI : FnScope ["self", "numbers"] ["self", "numbers"] (defScope (sR 0)) := ⟨rfl, rfl, rfl, by decide +kernel, rfl, by decide +kernel, by decide +kernel⟩
theorem ok_rinit {f C : Addr} {fd : FuncData} (F : Fun K "__init__" "Reader.__init__" (sR 0) f fd) (T : TR K mg C) : FnOk P w K mg base (CXx P w) 1 f fd ["self", "numbers"] (spRI C) := by
  refine F.okx scRI (fun vs H Q E h => ?_) (fun cdv A outer s0 H vs Q E hr h => ?_)
  · obtain ⟨r, dx, a, rfl, _⟩ := h
    rfl
  · obtain ⟨r, dx, a, rfl, hr0, k⟩ := h
    refine ⟨_, pss_cons (ps_fld (pv 0) (pv 1) rfl) (pss_one (ps_fld (pv 0) pe_int rfl)), ?_⟩
    refine ⟨_, rfl, _, rfl, r, C, dx, _, rfl, hr0, T.cl, T.nNu, (by show 0 < 1000; decide), _, rfl, r, C, dx, _, rfl, upd_same, T.cl, T.nPo, (by show 1 < 1000; decide), ?_⟩
    exact k _ ⟨dx, upd_same⟩ (((Kp.refl H _).put (by simp) _).put (by simp) _)
def spMore (K : PySem.W.Frag) (C : Addr) : Sp := fun vs H Q _ => ∃ (r a : Addr) (pos : Nat) (l : List Int), vs = [.ref r] ∧ RdAt C H r a pos ∧ SqL K H a (l.map V.int) ∧ Q (.bl (decide (pos < l.length))) H
theorem scMo : FnScope ["self"] ["self"] (defScope (sR 1)) := ⟨rfl, rfl, rfl, by decide +kernel, rfl, by decide +kernel, by decide +kernel⟩
theorem ok_more {f C : Addr} {fd : FuncData} (F : Fun K "has_more" "Reader.has_more" (sR 1) f fd) (T : TR K mg C) : FnOk P w K mg base (CXx P w) 1 f fd ["self"] (spMore K C) := by
  refine F.okx scMo (fun vs H Q E h => ?_) (fun cdv A outer s0 H vs Q E hr h => ?_)
  · obtain ⟨r, a, pos, l, rfl, _⟩ := h
    rfl
  · obtain ⟨r, a, pos, l, rfl, ⟨dx, hr0⟩, hS, k⟩ := h
    refine ⟨_, pss_one (ps_ret (pe_cmpR op_lt (pe_fld (pv 0) rfl) (pe_callB call_len_seq rfl T.len PySem.boot_len (pa_cons (pe_fld (pv 0) rfl) pa_nil)) (nomark _))), ?_⟩
    refine ⟨_, rfl, r, C, dx, _, _, rfl, hr0, T.cl, T.nPo, rfl, _, rfl, r, C, dx, _, _, rfl, hr0, T.cl, T.nNu, rfl, a, _, rfl, .inl hS, _, _, rfl, rfl, ?_⟩
    have e : decide (((pos : Nat) : Int) < (((l.map V.int).length : Nat) : Int)) = decide (pos < l.length) := by
      rw [List.length_map]
      by_cases z : pos < l.length
      · rw [decide_eq_true z, decide_eq_true (by omega)]
      · rw [decide_eq_false z, decide_eq_false (by omega)]
    show Q (.bl (decide (((pos : Nat) : Int) < (((l.map V.int).length : Nat) : Int)))) H
    rw [e]
    exact k
def spNext (K : PySem.W.Frag) (C : Addr) : Sp := fun vs H Q _ => ∃ (r a : Addr) (pos : Nat) (l : List Int) (z : Int), vs = [.ref r] ∧ RdAt C H r a pos ∧ SqL K H a (l.map V.int) ∧ l[pos]? = some z ∧ ∀ H', RdAt C H' r a (pos + 1) → Kp H H' [r] → Q (.int z) H'
theorem scNx : FnScope ["self", "number"] ["self"] (defScope (sR 2)) := ⟨rfl, rfl, rfl, by decide +kernel, rfl, by decide +kernel, by decide +kernel⟩
theorem ok_next {f C : Addr} {fd : FuncData} (F : Fun K "next_number" "Reader.next_number" (sR 2) f fd) (T : TR K mg C) : FnOk P w K mg base (CXx P w) 1 f fd ["self"] (spNext K C) := by
  refine F.okx scNx (fun vs H Q E h => ?_) (fun cdv A outer s0 H vs Q E hr h => ?_)
  · obtain ⟨r, a, pos, l, z, rfl, _⟩ := h
    rfl
  · obtain ⟨r, a, pos, l, z, rfl, ⟨dx, hr0⟩, hS, hz, k⟩ := h
    refine ⟨_, pss_cons (ps_set (i := 1) scNx.nd rfl (Or.inl rfl) (pe_ix ix_list (pe_fld (pv 0) rfl) (pe_fld (pv 0) rfl) (fun _ _ => rfl)))
      (pss_cons (ps_fldaug (pv 0) pe_int in_add) (pss_one (ps_ret (pv 1)))), ?_⟩
    refine ⟨_, rfl, r, C, dx, _, _, rfl, hr0, T.cl, T.nNu, rfl, _, rfl, r, C, dx, _, _, rfl, hr0, T.cl, T.nPo, rfl, a, _, _, _, rfl, rfl, hS, atI_nat (ints_get hz), ?_⟩
    refine ⟨_, rfl, r, C, dx, _, _, rfl, hr0, T.cl, T.nPo, rfl, _, _, rfl, rfl, dx, _, hr0, (by show 2 < 1000; decide), _, rfl, ?_⟩
    refine k _ ⟨dx, ?_⟩ ((Kp.refl H _).put (by simp) _)
    rw [upd_same]
    rfl
def spRow (K : PySem.W.Frag) (C : Addr) : Sp := fun vs H Q _ => ∃ (r a : Addr) (pos n : Nat) (l : List Int), vs = [.ref r] ∧ RdAt C H r a pos ∧ (∀ H', Kp H H' [r] → SqL K H' a (l.map V.int)) ∧ l[pos]? = some (n : Int) ∧ pos + 1 + n ≤ l.length ∧
  ∀ H' p, H p = none → H' p = some (.lst (((l.drop (pos + 1)).take n).map V.int)) → RdAt C H' r a (pos + 1 + n) → Kp H H' [r] → Q (.ref p) H'
theorem scRw : FnScope ["self", "length", "row"] ["self"] (defScope (sR 3)) := ⟨rfl, rfl, rfl, by decide +kernel, rfl, by decide +kernel, by decide +kernel⟩
theorem cut_row (l : List Int) (p n : Nat) (h : p + n ≤ l.length) : cutV (l.map V.int) (some (p : Int)) (some ((p : Int) + (n : Int))) = ((l.drop p).take n).map V.int := by
  have e2 : ((p : Int) + (n : Int)) = ((p + n : Nat) : Int) := by omega
  unfold cutV
  rw [e2, HT.sIx_nat, HT.sIx_nat, List.length_map, Nat.min_eq_left (by omega), Nat.min_eq_left (by omega), show p + n - p = n by omega, List.map_take, List.map_drop]
theorem ok_row {f C fN : Addr} {fd fdN : FuncData} (F : Fun K "next_row" "Reader.next_row" (sR 3) f fd) (T : TR K mg C) (FN : Fun K "next_number" "Reader.next_number" (sR 2) fN fdN) (bN : Binds K fdN ["self"] []) (mN : Meth K C "next_number" fN) : FnOk P w K mg base (CXx P w) 2 f fd ["self"] (spRow K C) := by
  have GN : FnOk P w K mg base (CXx P w) 1 fN fdN ["self"] (spNext K C) := ok_next FN T
  refine F.okx scRw (fun vs H Q E h => ?_) (fun cdv A outer s0 H vs Q E hr h => ?_)
  · obtain ⟨r, a, pos, n, l, rfl, _⟩ := h
    rfl
  · obtain ⟨r, a, pos, n, l, rfl, R0, hS, hz, hlen, k⟩ := h
    refine ⟨_, pss_cons (ps_set (i := 1) scRw.nd rfl (Or.inl rfl) (pe_meth0 (pv 0) T.cl mN GN hr bN .nil passes0))
      (pss_cons (ps_set (i := 2) scRw.nd rfl (Or.inl rfl) (pe_slice sl_list (pe_fld (pv 0) rfl) (po_some (pe_fld (pv 0) rfl)) (po_some (pe_op op_add (pe_fld (pv 0) rfl) (pv 1)))))
      (pss_cons (ps_fldaug (pv 0) (pv 1) in_add) (pss_one (ps_ret (pv 2))))), ?_⟩
    obtain ⟨dx, hr0⟩ := R0
    refine ⟨_, rfl, r, dx, _, rfl, hr0, rfl, r, a, pos, l, _, rfl, ⟨dx, hr0⟩, hS H (Kp.refl H _), hz, fun H1 ⟨dx1, hr1⟩ k1 => ?_⟩
    have hS1 : SqL K H1 a (l.map V.int) := hS H1 k1
    refine ⟨_, rfl, r, C, dx1, _, _, rfl, hr1, T.cl, T.nNu, rfl, _, rfl, r, C, dx1, _, _, rfl, hr1, T.cl, T.nPo, rfl, _, rfl, _, rfl, r, C, dx1, _, _, rfl, hr1, T.cl, T.nPo, rfl, _, rfl, _, _, rfl, rfl, _, rfl, a, _, rfl, hS1, fun p hp => ?_⟩
    have er := cut_row l (pos + 1) n hlen
    rw [er]
    have hrp : r ≠ p := ne_of_none hr1 hp
    refine ⟨_, rfl, r, C, dx1, _, _, rfl, (by rw [upd_ne hrp]; exact hr1), T.cl, T.nPo, rfl, _, rfl, _, _, rfl, rfl, dx1, _, (by rw [upd_ne hrp]; exact hr1), (by show 2 < 1000; decide), _, rfl, ?_⟩
    refine k _ p ?_ ?_ ⟨dx1, ?_⟩ ((k1.new hp _).put (by simp) _)
    · exact k1.free p hp
    · rw [upd_ne (Ne.symm hrp), upd_same]
    · rw [upd_same]
      rfl
end
end My
end

section
set_option Elab.async false
set_option linter.all false
set_option maxRecDepth 100000
set_option maxHeartbeats 4000000
/-! The loop over the calls, given what one call does. -/
namespace My
open PySem PySem.Spec PyProof.Rows L2
/-- the list that is handed in: known, never written -/
def SqF (K : PySem.W.Frag) (H : Hp) (a : Addr) (xs : List V) : Prop := (∃ o, H a = some (.frz o (.lst xs))) ∨ ∀ H', SqL K H' a xs
theorem SqF.sq {K : PySem.W.Frag} {H : Hp} {a : Addr} {xs : List V} (h : SqF K H a xs) : SqL K H a xs := by
  rcases h with ⟨o, h⟩ | h
  · exact .inl (.inr ⟨o, h⟩)
  · exact h H
def noFrz (H : Hp) (L : List Addr) : Prop := ∀ b ∈ L, ∀ o u, H b ≠ some (.frz o u)
theorem SqF.kp {K : PySem.W.Frag} {H H' : Hp} {a : Addr} {xs : List V} {L : List Addr} (h : SqF K H a xs) (k : Kp H H' L) (n : noFrz H L) : SqF K H' a xs := by
  rcases h with ⟨o, h⟩ | h
  · exact .inl ⟨o, k.keep a _ h fun z => n a z o _ h⟩
  · exact .inr h
theorem Mach.noFrz {C : Addr} {H : Hp} {m sw bb tp pr : Addr} {s : Rc38.Abs} (M : Mach C H m sw bb tp pr s) : My.noFrz H (m :: [sw, bb, tp, pr]) := by
  obtain ⟨dx, hm⟩ := M.ob
  intro b hb o u
  simp only [List.mem_cons, List.not_mem_nil, or_false] at hb
  rcases hb with rfl | rfl | rfl | rfl | rfl
  · rw [hm]; intro z; cases z
  · rw [M.hsw]; intro z; cases z
  · rw [M.hbb]; intro z; cases z
  · rw [M.htp]; intro z; cases z
  · rw [M.hpr]; intro z; cases z
theorem RdAt.noFrz {C : Addr} {H : Hp} {r a : Addr} {pos : Nat} (R : RdAt C H r a pos) : My.noFrz H [r] := by
  obtain ⟨dx, h⟩ := R
  intro b hb o u
  rw [List.mem_singleton.mp hb, h]
  intro z
  cases z
theorem noFrz.app {H : Hp} {L M : List Addr} (a : noFrz H L) (b : noFrz H M) : noFrz H (L ++ M) := fun x hx => (List.mem_append.mp hx).elim (a x) (b x)
/-- what one call does: the reader goes on, the machine turns, a new list is the answer -/
def spCall (K : PySem.W.Frag) (C CR : Addr) : Sp := fun vs H Q _ => ∃ (m r a sw bb tp pr : Addr) (s : Rc38.Abs) (l : List Int) (pos : Nat) (c : List (List Int)) (rest : List Int), vs = [.ref m, .ref r] ∧ Mach C H m sw bb tp pr s ∧ RdAt CR H r a pos ∧ r ≠ m ∧ SqF K H a (l.map V.int) ∧
  l.drop pos = PyFlat.put1 c ++ rest ∧ Rc38Neutral.asked1 c = true ∧
  ∀ (H' : Hp) (p sw' bb' tp' pr' : Addr), Mach C H' m sw' bb' tp' pr' (stp s c).1 → RdAt CR H' r a (pos + (PyFlat.put1 c).length) → H p = none → H' p = some (.lst ((stp s c).2.map V.int)) → Kp H H' ([r] ++ m :: [sw, bb, tp, pr]) →
    (∀ b ∈ [sw', bb', tp', pr'], b ∈ [sw, bb, tp, pr] ∨ H b = none) → p ∉ [sw', bb', tp', pr'] → Q (.ref p) H'
section
variable {P : Program} {w : World} {K : PySem.W.Frag} {mg : Str → Option Value} {base : Heap}
def spOf (K : PySem.W.Frag) (C : Addr) : Sp := fun vs H Q _ => ∃ (m a sw bb tp pr : Addr) (l : List Int), vs = [.ref m, .ref a] ∧ Mach C H m sw bb tp pr {} ∧ SqF K H a (l.map V.int) ∧ PyRc38.answers_asked l = true ∧
  ∀ (H' : Hp) (p : Addr), H' p = some (.lst ((PyRc38.answers l).map V.int)) → Q (.ref p) H'
theorem scOf : FnScope ["machine", "calls", "reader", "written", "answer"] ["machine", "calls"] (defScope (top 88)) := ⟨rfl, rfl, rfl, by decide +kernel, rfl, by decide +kernel, by decide +kernel⟩
theorem ok_of {n : Nat} {f C CR fC fI fM : Addr} {fd fdC fdI fdM : FuncData} (hn : 2 ≤ n) (F : Fun K "answers_of" "answers_of" (top 88) f fd) (T : TM K mg C) (TR : TR K mg CR)
    (mk : Mk K CR fI) (mR : mg "Reader" = some (.ref CR)) (FI : Fun K "__init__" "Reader.__init__" (sR 0) fI fdI) (bI : Binds K fdI ["self", "numbers"] [])
    (FM : Fun K "has_more" "Reader.has_more" (sR 1) fM fdM) (bM : Binds K fdM ["self"] []) (mM : Meth K CR "has_more" fM)
    (kC : PySem.W.keepIn K (.ref fC) = true) (bC : Binds K fdC ["machine", "reader"] []) (mC : mg "answer_call" = some (.ref fC)) (GC : FnOk P w K mg base (CXx P w) n fC fdC ["machine", "reader"] (spCall K C CR)) :
    FnOk P w K mg base (CXx P w) (n + 1) f fd ["machine", "calls"] (spOf K C) := by
  have GI : FnOk P w K mg base (CXx P w) 1 fI fdI ["self", "numbers"] (spRI CR) := ok_rinit FI TR
  have GM : FnOk P w K mg base (CXx P w) 1 fM fdM ["self"] (spMore K CR) := ok_more FM TR
  refine F.okx scOf (fun vs H Q E h => ?_) (fun cdv A outer s0 H vs Q E hr h => ?_)
  · obtain ⟨m, a, sw, bb, tp, pr, l, rfl, _⟩ := h
    rfl
  · obtain ⟨m, a, sw, bb, tp, pr, l, rfl, M, hS, hask, k⟩ := h
    obtain ⟨cs, el, hcs, h400, h10, hans⟩ := asked_out hask
    have hr2 : Room (1 + 1) _ := hr.mono hn
    have hr1 : Room 1 _ := hr.mono (Nat.le_trans (by decide) hn)
    refine ⟨_, pss_cons (ps_set (i := 2) scOf.nd rfl (Or.inl rfl) (pe_make mk GI hr2 rfl mR bI .nil passes0 (pa_cons (pv 1) pa_nil)))
      (pss_cons (ps_set (i := 3) scOf.nd rfl (Or.inl rfl) (pe_lst pa_nil))
      (pss_cons (ps_while own_def (pt_val (pe_meth0 (pv 2) TR.cl mM GM hr1 bM .nil passes0))
        (pss_cons (ps_set (i := 4) scOf.nd rfl (Or.inl rfl) (pe_call GC hr rfl mC kC bC .nil passes0 (pa_cons (pv 0) (pa_cons (pv 2) pa_nil))))
        (pss_cons (ps_expr (pe_bm PySem.F.plainAttrs_list PySem.F.slot_list_append PySem.F.type_list_append mt_append (pv 3) (pa_cons (pe_callB call_len_seq rfl TR.len PySem.boot_len (pa_cons (pv 4) pa_nil)) pa_nil)))
        (pss_one (ps_expr (pe_bm PySem.F.plainAttrs_list PySem.F.slot_list_extend PySem.F.type_list_extend mt_extend (pv 3) (pa_cons (pv 4) pa_nil)))))))
      (pss_one (ps_ret (pv 3))))), ?_⟩
    refine ⟨_, rfl, fun r dr hr0 hdr hne => ⟨r, dr, a, rfl, upd_same, fun H1 R1 k1 => ⟨rfl, ?_⟩⟩⟩
    -- the reader is new
    have km : Kp H H1 [r] := ((((Kp.refl H [r]).new hdr _).put (by simp) _)).trans k1
    have M1 : Mach C H1 m sw bb tp pr {} := M.mono fun b hb o e => km.keep b o e (by
      intro z
      rw [List.mem_singleton.mp z, hr0] at e
      cases e)
    have hS1 : SqF K H1 a (l.map V.int) := by
      rcases hS with ⟨o, h⟩ | h
      · exact .inl ⟨o, km.keep a _ h (by intro z; rw [List.mem_singleton.mp z, hr0] at h; cases h)⟩
      · exact .inr h
    refine ⟨by show 0 ≤ sizeLine; decide, fun wl hwl => ?_⟩
    have hrm : r ≠ m := by
      obtain ⟨dx, hm⟩ := M.ob
      intro z
      rw [z, hm] at hr0
      cases hr0
    have kw : Kp H1 (upd H1 wl (.lst [])) [] := (Kp.refl H1 []).new hwl _
    have nl : ∀ b o, H1 b = some o → b ≠ wl := fun b o e => ne_of_none e hwl
    have sz : ∀ i, i ≤ cs.length → (∀ j, j ≤ i → Good (runs {} (cs.take j))) → (PyFlat.told (PyFlat.played stp {} (cs.take i))).length ≤ 700000 := fun i hi hg => by
      have e1 : ∀ j, (cs.take i).take j = cs.take (min j i) := fun j => List.take_take ..
      have hl : (cs.take i).length = i := by rw [List.length_take]; omega
      have := told_len (cs := cs.take i) (fun j hj => by rw [e1]; exact hg _ (Nat.min_le_right _ _)) i (by rw [hl]; exact Nat.le_refl _)
      rw [e1, Nat.min_self] at this
      have h2 := mosts_take cs i
      have h3 := mosts_le cs
      omega
    refine ⟨fun mm σ H' => ∃ (i : Nat) (sw bb tp pr : Addr) (v4 : Option V), i ≤ cs.length ∧ mm = cs.length - i ∧ σ = [some (.ref m), some (.ref a), some (.ref r), some (.ref wl), v4] ∧ Mach C H' m sw bb tp pr (runs {} (cs.take i)) ∧
      RdAt CR H' r a (PyFlat.put (cs.take i)).length ∧ SqF K H' a (l.map V.int) ∧ H' wl = some (.lst ((PyFlat.told (PyFlat.played stp {} (cs.take i))).map V.int)) ∧ wl ∉ [sw, bb, tp, pr] ∧ ∀ j, j ≤ i → Good (runs {} (cs.take j)),
      ⟨_, 0, sw, bb, tp, pr, none, Nat.zero_le _, rfl, rfl, M1.mono fun b _ o e => by rw [upd_ne (nl b o e)]; exact e, ?_, hS1.kp kw fun b hb => absurd hb (by simp), upd_same, ?_, fun j hj => ?_⟩, ?_⟩
    · obtain ⟨dx, h⟩ := R1
      exact ⟨dx, by rw [upd_ne (nl r _ h)]; exact h⟩
    · intro z
      simp only [List.mem_cons, List.not_mem_nil, or_false] at z
      rcases z with z | z | z | z
      · exact nl _ _ M1.hsw z.symm
      · exact nl _ _ M1.hbb z.symm
      · exact nl _ _ M1.htp z.symm
      · exact nl _ _ M1.hpr z.symm
    · have : j = 0 := by omega
      subst this
      exact M.good
    · rintro mm σ H2 ⟨i, sw, bb, tp, pr, v4, hi, rfl, rfl, M2, R2, S2, hw2, nw2, hg⟩
      obtain ⟨dr2, hr2'⟩ := id R2
      refine ⟨_, rfl, r, dr2, _, rfl, hr2', rfl, r, a, _, l, rfl, R2, S2.sq, _, rfl, ite2 (fun e => ?_) (fun e => ?_)⟩
      · have hlt : (PyFlat.put (cs.take i)).length < l.length := of_decide_eq_true e
        have hic : i < cs.length := by
          by_cases z : i < cs.length
          · exact z
          · have ei : i = cs.length := by omega
            rw [ei, List.take_length, ← el] at hlt
            exact absurd hlt (Nat.lt_irrefl _)
        obtain ⟨c, hc⟩ : ∃ c, cs[i]? = some c := ⟨_, List.getElem?_eq_getElem hic⟩
        have hdrop : l.drop (PyFlat.put (cs.take i)).length = PyFlat.put1 c ++ PyFlat.put (cs.drop (i + 1)) := by
          rw [el, put_drop]
          have e1 : cs.drop i = c :: cs.drop (i + 1) := by
            rw [List.drop_eq_getElem_cons hic]
            obtain ⟨_, e2⟩ := List.getElem?_eq_some_iff.mp hc
            rw [e2]
          rw [e1]
          rfl
        have htk : cs.take (i + 1) = cs.take i ++ [c] := take_snoc hc
        refine ⟨fun σ' H' => ∃ (sw bb tp pr : Addr) (v4 : Option V), σ' = [some (.ref m), some (.ref a), some (.ref r), some (.ref wl), v4] ∧ Mach C H' m sw bb tp pr (runs {} (cs.take (i + 1))) ∧
          RdAt CR H' r a (PyFlat.put (cs.take (i + 1))).length ∧ SqF K H' a (l.map V.int) ∧ H' wl = some (.lst ((PyFlat.told (PyFlat.played stp {} (cs.take (i + 1)))).map V.int)) ∧ wl ∉ [sw, bb, tp, pr] ∧ ∀ j, j ≤ i + 1 → Good (runs {} (cs.take j)),
          fun σ' H' ⟨sw, bb, tp, pr, v4, h⟩ => ⟨cs.length - (i + 1), by omega, i + 1, sw, bb, tp, pr, v4, hic, rfl, h⟩, ?_⟩
        refine ⟨_, rfl, _, rfl, m, r, a, sw, bb, tp, pr, _, l, _, c, _, rfl, M2, R2, hrm, S2, hdrop, hcs c (List.mem_of_getElem? hc), fun H3 p sw' bb' tp' pr' M3 R3 hp2 hp3 k3 hnew hpn => ?_⟩
        have S3 : SqF K H3 a (l.map V.int) := S2.kp k3 (R2.noFrz.app M2.noFrz)
        obtain ⟨dm2, hm2⟩ := M2.ob
        have wlr : wl ≠ r := ne_of hw2 hr2' (by intro z; cases z)
        have wlm : wl ≠ m := ne_of hw2 hm2 (by intro z; cases z)
        have hw3 := k3.keep wl _ hw2 (by
          intro z
          rcases List.mem_append.mp z with z | z
          · exact wlr (List.mem_singleton.mp z)
          · rcases List.mem_cons.mp z with z | z
            · exact wlm z
            · exact nw2 z)
        have pwl : p ≠ wl := fun z => by rw [z, hw2] at hp2; cases hp2
        have nw3 : wl ∉ [sw', bb', tp', pr'] := fun z => by
          rcases hnew wl z with h | h
          · exact nw2 h
          · rw [hw2] at h
            cases h
        have hg1 : ∀ j, j ≤ i + 1 → Good (runs {} (cs.take j)) := fun j hj => by
          by_cases z : j ≤ i
          · exact hg j z
          · have ej : j = i + 1 := by omega
            rw [ej, htk, runs_snoc]
            exact M3.good
        have s1 := sz (i + 1) hic hg1
        have s0' := sz i hi hg
        rw [htk, played_snoc, told_snoc, List.length_append, List.length_cons] at s1
        refine ⟨_, rfl, .inl ⟨rfl, _, SqL.of hw3⟩, _, rfl, p, _, rfl, .inl (SqL.of hp3), wl, _, _, rfl, rfl, hw3, (by rw [List.length_map]; exact Nat.lt_of_le_of_lt s0' (by decide)), ?_⟩
        refine ⟨_, rfl, .inl ⟨rfl, _, SqL.of upd_same⟩, _, rfl, wl, p, _, _, rfl, rfl, upd_same, (by rw [upd_ne pwl]; exact hp3), ?_, ?_⟩
        · simp only [List.length_append, List.length_map, List.length_cons, List.length_nil]
          exact Nat.le_trans (show _ ≤ 700000 by omega) (by decide)
        · have mem5 : ∀ b, b ∈ [m, sw', bb', tp', pr'] → b ≠ wl := fun b hb z => by
            rcases List.mem_cons.mp hb with h | h
            · exact wlm (z.symm.trans h)
            · exact nw3 (by rw [← z]; exact h)
          obtain ⟨dr3, hr3⟩ := R3
          refine ⟨sw', bb', tp', pr', _, rfl, ?_, ⟨dr3, ?_⟩, ?_, ?_, nw3, hg1⟩
          · rw [htk, runs_snoc]
            exact M3.mono fun b hb o e => by rw [upd_ne (mem5 b hb), upd_ne (mem5 b hb)]; exact e
          · rw [upd_ne (Ne.symm wlr), upd_ne (Ne.symm wlr), htk, put_append, put_one, List.length_append]
            exact hr3
          · exact S3.kp (((Kp.refl H3 [wl]).put (by simp) _).put (by simp) _) fun b hb o u z => by
              rw [List.mem_singleton.mp hb, hw3] at z
              cases z
          · rw [upd_same, htk, played_snoc, told_snoc]
            congr 2
            simp
      · have hic : i = cs.length := by
          by_cases z : i < cs.length
          · have hc : ∃ c, cs[i]? = some c := ⟨_, List.getElem?_eq_getElem z⟩
            obtain ⟨c, hc⟩ := hc
            have hpos := put1_pos (hcs c (List.mem_of_getElem? hc))
            have e1 : PyFlat.put cs = PyFlat.put (cs.take i) ++ PyFlat.put (cs.drop i) := by rw [← put_append, List.take_append_drop]
            have e2 : cs.drop i = c :: cs.drop (i + 1) := by
              rw [List.drop_eq_getElem_cons z]
              obtain ⟨_, e3⟩ := List.getElem?_eq_some_iff.mp hc
              rw [e3]
            have e4 : (PyFlat.put (cs.drop i)).length = (PyFlat.put1 c).length + (PyFlat.put (cs.drop (i + 1))).length := by
              rw [e2]
              exact List.length_append ..
            refine absurd (decide_eq_true ?_) e
            rw [el, e1, List.length_append, e4]
            omega
          · omega
        subst hic
        rw [List.take_length] at hw2
        rw [hans] at k
        exact ⟨_, rfl, k H2 wl hw2⟩
end
end My
end

section
set_option Elab.async false
set_option linter.all false
set_option maxRecDepth 100000
set_option maxHeartbeats 4000000
/-! answers, and the calls that hand a row over. -/
namespace My
open PySem PySem.Spec PyProof.Rows L2
section
variable {P : Program} {w : World} {K : PySem.W.Frag} {mg : Str → Option Value} {base : Heap}
/-! ### answers -/
def spTop (K : PySem.W.Frag) : Sp := fun vs H Q _ => ∃ (a : Addr) (l : List Int), vs = [.ref a] ∧ SqF K H a (l.map V.int) ∧ PyRc38.answers_asked l = true ∧ ∀ (H' : Hp) (p : Addr), H' p = some (.lst ((PyRc38.answers l).map V.int)) → Q (.ref p) H'
theorem scTp : FnScope ["calls"] ["calls"] (defScope (top 87)) := ⟨rfl, rfl, rfl, by decide +kernel, rfl, by decide +kernel, by decide +kernel⟩
theorem ok_top {n : Nat} {f C fO fI : Addr} {fd fdO fdI : FuncData} (hn : 3 ≤ n) (F : Fun K "answers" "answers" (top 87) f fd)
    (mk : Mk K C fI) (mC : mg "Machine" = some (.ref C)) (bI : Binds K fdI ["self"] []) (GI : FnOk P w K mg base (CXx P w) 2 fI fdI ["self"] (spInit C))
    (kO : PySem.W.keepIn K (.ref fO) = true) (bO : Binds K fdO ["machine", "calls"] []) (mO : mg "answers_of" = some (.ref fO)) (GO : FnOk P w K mg base (CXx P w) n fO fdO ["machine", "calls"] (spOf K C)) :
    FnOk P w K mg base (CXx P w) (n + 1) f fd ["calls"] (spTop K) := by
  refine F.okx scTp (fun vs H Q E h => ?_) (fun cdv A outer s0 H vs Q E hr h => ?_)
  · obtain ⟨a, l, rfl, _⟩ := h
    rfl
  · obtain ⟨a, l, rfl, hS, hask, k⟩ := h
    have hr3 : Room (2 + 1) _ := hr.mono hn
    refine ⟨_, pss_one (ps_ret (pe_call GO hr rfl mO kO bO .nil passes0 (pa_cons (pe_make0 mk GI hr3 rfl mC bI .nil passes0) (pa_cons (pv 0) pa_nil)))), ?_⟩
    refine fun m dm hm hdm hne => ⟨m, dm, rfl, upd_same, fun H1 sw bb tp pr M kp fr => ⟨rfl, _, rfl, m, a, sw, bb, tp, pr, l, rfl, M, ?_, hask, fun H' p hp => k H' p hp⟩⟩
    have km : Kp H H1 [m] := (((Kp.refl H [m]).new hdm _).put (by simp) _).trans kp
    rcases hS with ⟨o, h⟩ | h
    · exact .inl ⟨o, km.keep a _ h (by intro z; rw [List.mem_singleton.mp z, hm] at h; cases h)⟩
    · exact .inr h
/-! ### the row of a call -/
theorem nats_of {b : List Int} {k : Nat} (h : (b.all fun (z : Int) => Rc38Neutral.natural z k) = true) : b.map V.int = ivs (Rc38Neutral.natsOf b) := by
  unfold Rc38Neutral.natsOf
  show b.map V.int = (b.map Int.toNat).map iv
  rw [List.map_map]
  apply List.map_congr_left
  intro z hz
  have h1 := List.all_eq_true.mp h z hz
  unfold Rc38Neutral.natural at h1
  simp only [Bool.and_eq_true, decide_eq_true_eq] at h1
  show V.int z = V.int ((z.toNat : Nat) : Int)
  rw [Int.toNat_of_nonneg h1.1]
theorem long_of {b : List Int} {n lo hi : Int} (h : Rc38Neutral.long b n lo hi = true) : (b.length : Int) = if lo ≤ n ∧ n ≤ hi then n else 0 := of_decide_eq_true h
theorem drop_at {l : List Int} {pos : Nat} {x : Int} {r : List Int} (h : l.drop pos = x :: r) : l[pos]? = some x ∧ l.drop (pos + 1) = r := by
  have h1 : (l.drop pos)[0]? = some x := by rw [h]; rfl
  rw [List.getElem?_drop] at h1
  refine ⟨by simpa using h1, ?_⟩
  have h2 : (l.drop pos).drop 1 = r := by rw [h]; rfl
  rw [List.drop_drop] at h2
  exact h2
/-- behind the call's number: like spCall -/
def spTail (K : PySem.W.Frag) (C CR : Addr) (num : Int) : Sp := fun vs H Q _ => ∃ (m r a sw bb tp pr : Addr) (s : Rc38.Abs) (l : List Int) (pos : Nat) (c : List (List Int)) (rest : List Int), vs = [.ref m, .ref r] ∧ Mach C H m sw bb tp pr s ∧ RdAt CR H r a (pos + 1) ∧ r ≠ m ∧ SqF K H a (l.map V.int) ∧
  l.drop pos = PyFlat.put1 c ++ rest ∧ Rc38Neutral.asked1 c = true ∧ (PyFlat.put1 c).headD 0 = num ∧
  ∀ (H' : Hp) (p sw' bb' tp' pr' : Addr), Mach C H' m sw' bb' tp' pr' (stp s c).1 → RdAt CR H' r a (pos + (PyFlat.put1 c).length) → H p = none → H' p = some (.lst ((stp s c).2.map V.int)) → Kp H H' ([r] ++ m :: [sw, bb, tp, pr]) →
    (∀ b ∈ [sw', bb', tp', pr'], b ∈ [sw, bb, tp, pr] ∨ H b = none) → p ∉ [sw', bb', tp', pr'] → Q (.ref p) H'
/-- the forms that are asked -/
inductive Form : List (List Int) → Prop
  | f0 : Form [[0]]
  | f1 (a n : Int) (b : List Int) : (b.all fun (z : Int) => Rc38Neutral.natural z 32) = true → ((b.length : Int) = if 1 ≤ n ∧ n ≤ 1024 then n else 0) → Form [[1, a, n], b]
  | f2 (a n : Int) (b : List Int) : (b.all fun (z : Int) => Rc38Neutral.natural z 8) = true → ((b.length : Int) = if 1 ≤ n ∧ n ≤ 16384 then n else 0) → Form [[2, a, n], b]
  | f3 (n : Int) (b : List Int) : (b.all fun (z : Int) => Rc38Neutral.natural z 8) = true → ((b.length : Int) = if 1 ≤ n ∧ n ≤ 4096 then n else 0) → Form [[3, n], b]
  | f4 (a : Int) : Form [[4, a]]
  | f5 (a : Int) : Form [[5, a]]
  | f6 (a : Int) : Form [[6, a]]
  | f7 (a b : Int) : Form [[7, a, b]]
  | f8 : Form [[8]]
theorem form_of {c : List (List Int)} (h : Rc38Neutral.asked1 c = true) : Form c := by
  unfold Rc38Neutral.asked1 at h
  split at h
  · exact .f0
  · simp only [Bool.and_eq_true] at h
    exact .f1 _ _ _ h.2.1.1 (long_of h.2.1.2)
  · simp only [Bool.and_eq_true] at h
    exact .f2 _ _ _ h.2.1.1 (long_of h.2.1.2)
  · simp only [Bool.and_eq_true] at h
    exact .f3 _ _ h.1.1 (long_of h.1.2)
  · exact .f4 _
  · exact .f5 _
  · exact .f6 _
  · exact .f7 _ _
  · exact .f8
  · cases h
theorem form_num {c : List (List Int)} (f : Form c) : ∃ k : Nat, k ≤ 8 ∧ (PyFlat.put1 c).headD 0 = (k : Int) ∧ (match k with
    | 0 => c = [[0]]
    | 1 => ∃ a n b, c = [[1, a, n], b] ∧ (b.all fun (z : Int) => Rc38Neutral.natural z 32) = true ∧ (b.length : Int) = if 1 ≤ n ∧ n ≤ 1024 then n else 0
    | 2 => ∃ a n b, c = [[2, a, n], b] ∧ (b.all fun (z : Int) => Rc38Neutral.natural z 8) = true ∧ (b.length : Int) = if 1 ≤ n ∧ n ≤ 16384 then n else 0
    | 3 => ∃ n b, c = [[3, n], b] ∧ (b.all fun (z : Int) => Rc38Neutral.natural z 8) = true ∧ (b.length : Int) = if 1 ≤ n ∧ n ≤ 4096 then n else 0
    | 4 => ∃ a, c = [[4, a]]
    | 5 => ∃ a, c = [[5, a]]
    | 6 => ∃ a, c = [[6, a]]
    | 7 => ∃ a b, c = [[7, a, b]]
    | _ => c = [[8]]) := by
  cases f with
  | f0 => exact ⟨0, by decide, rfl, rfl⟩
  | f1 a n b h1 h2 => exact ⟨1, by decide, rfl, a, n, b, rfl, h1, h2⟩
  | f2 a n b h1 h2 => exact ⟨2, by decide, rfl, a, n, b, rfl, h1, h2⟩
  | f3 n b h1 h2 => exact ⟨3, by decide, rfl, n, b, rfl, h1, h2⟩
  | f4 a => exact ⟨4, by decide, rfl, a, rfl⟩
  | f5 a => exact ⟨5, by decide, rfl, a, rfl⟩
  | f6 a => exact ⟨6, by decide, rfl, a, rfl⟩
  | f7 a b => exact ⟨7, by decide, rfl, a, b, rfl⟩
  | f8 => exact ⟨8, by decide, rfl, rfl⟩
theorem form1 {c : List (List Int)} (h : Rc38Neutral.asked1 c = true) (e : (PyFlat.put1 c).headD 0 = 1) : ∃ a n b, c = [[1, a, n], b] ∧ (b.all fun (z : Int) => Rc38Neutral.natural z 32) = true ∧ (b.length : Int) = if 1 ≤ n ∧ n ≤ 1024 then n else 0 := by
  obtain ⟨k, _, hk, hm⟩ := form_num (form_of h)
  have : k = 1 := by omega
  subst this
  exact hm
theorem form2 {c : List (List Int)} (h : Rc38Neutral.asked1 c = true) (e : (PyFlat.put1 c).headD 0 = 2) : ∃ a n b, c = [[2, a, n], b] ∧ (b.all fun (z : Int) => Rc38Neutral.natural z 8) = true ∧ (b.length : Int) = if 1 ≤ n ∧ n ≤ 16384 then n else 0 := by
  obtain ⟨k, _, hk, hm⟩ := form_num (form_of h)
  have : k = 2 := by omega
  subst this
  exact hm
theorem form3 {c : List (List Int)} (h : Rc38Neutral.asked1 c = true) (e : (PyFlat.put1 c).headD 0 = 3) : ∃ n b, c = [[3, n], b] ∧ (b.all fun (z : Int) => Rc38Neutral.natural z 8) = true ∧ (b.length : Int) = if 1 ≤ n ∧ n ≤ 4096 then n else 0 := by
  obtain ⟨k, _, hk, hm⟩ := form_num (form_of h)
  have : k = 3 := by omega
  subst this
  exact hm
/-! ### answer_words, answer_orders, answer_tape -/
theorem ans_words (s : Rc38.Abs) (a n : Int) (b : List Int) : stp s [[1, a, n], b] = ((Rc38.does s (.words a (Rc38Neutral.natsOf b) n)).1, [(Rc38.does s (.words a (Rc38Neutral.natsOf b) n)).2.value]) := by
  show (_, _ :: List.map _ _) = _
  have e : (Rc38.does s (.words a (Rc38Neutral.natsOf b) n)).2.numbers = [] := by
    unfold Rc38.does
    dsimp only
    split <;> rfl
  rw [e]
  rfl
theorem ans_orders (s : Rc38.Abs) (a n : Int) (b : List Int) : stp s [[2, a, n], b] = ((Rc38.does s (.orders a (Rc38Neutral.natsOf b) n)).1, [(Rc38.does s (.orders a (Rc38Neutral.natsOf b) n)).2.value]) := by
  show (_, _ :: List.map _ _) = _
  have e : (Rc38.does s (.orders a (Rc38Neutral.natsOf b) n)).2.numbers = [] := by
    unfold Rc38.does
    dsimp only
    split
    · rfl
    · split
      · rfl
      · split <;> rfl
  rw [e]
  rfl
theorem ans_tape (s : Rc38.Abs) (n : Int) (b : List Int) : stp s [[3, n], b] = ((Rc38.does s (.tape (Rc38Neutral.natsOf b) n)).1, [(Rc38.does s (.tape (Rc38Neutral.natsOf b) n)).2.value]) := by
  show (_, _ :: List.map _ _) = _
  have e : (Rc38.does s (.tape (Rc38Neutral.natsOf b) n)).2.numbers = [] := by
    unfold Rc38.does
    dsimp only
    split <;> rfl
  rw [e]
  rfl
/-- the machine while only the reader turns -/
theorem Mach.rd {C CR : Addr} {H H' : Hp} {m sw bb tp pr r a : Addr} {pos : Nat} {s : Rc38.Abs} (M : Mach C H m sw bb tp pr s) (R : RdAt CR H r a pos) (hrm : r ≠ m) (k : Kp H H' [r]) : Mach C H' m sw bb tp pr s := by
  obtain ⟨dr, hr⟩ := R
  refine M.mono fun b hb o e => k.keep b o e fun z => ?_
  have eb := List.mem_singleton.mp z
  subst eb
  simp only [List.mem_cons, List.not_mem_nil, or_false] at hb
  rcases hb with h | h | h | h | h
  · exact hrm h
  · rw [h, M.hsw] at hr; cases hr
  · rw [h, M.hbb] at hr; cases hr
  · rw [h, M.htp] at hr; cases hr
  · rw [h, M.hpr] at hr; cases hr
/-- the reader while only the machine turns -/
theorem RdAt.mach {C CR : Addr} {H H' : Hp} {m sw bb tp pr r a : Addr} {pos : Nat} {s : Rc38.Abs} (R : RdAt CR H r a pos) (M : Mach C H m sw bb tp pr s) (hrm : r ≠ m) (k : Kp H H' (m :: [sw, bb, tp, pr])) : RdAt CR H' r a pos := by
  obtain ⟨dr, hr⟩ := R
  refine ⟨dr, k.keep r _ hr fun z => ?_⟩
  simp only [List.mem_cons, List.not_mem_nil, or_false] at z
  rcases z with h | h | h | h | h
  · exact hrm h
  · rw [h, M.hsw] at hr; cases hr
  · rw [h, M.hbb] at hr; cases hr
  · rw [h, M.htp] at hr; cases hr
  · rw [h, M.hpr] at hr; cases hr
/-- the answer of one number: the list [z] is new -/
theorem ans_one {K : PySem.W.Frag} {C CR : Addr} {H0 H H4 : Hp} {m r a sw bb tp pr sw' bb' tp' pr' : Addr} {s s' : Rc38.Abs} {pos : Nat} {Q : V → Hp → Prop} {xs : List V}
    (k : ∀ (H' : Hp) (p sw' bb' tp' pr' : Addr), Mach C H' m sw' bb' tp' pr' s' → RdAt CR H' r a pos → H0 p = none → H' p = some (.lst xs) → Kp H0 H' ([r] ++ m :: [sw, bb, tp, pr]) → (∀ b ∈ [sw', bb', tp', pr'], b ∈ [sw, bb, tp, pr] ∨ H0 b = none) → p ∉ [sw', bb', tp', pr'] → Q (.ref p) H')
    (k0 : Kp H0 H [r]) (M : Mach C H m sw bb tp pr s) (R : RdAt CR H r a pos) (hrm : r ≠ m) (M4 : Mach C H4 m sw' bb' tp' pr' s') (k4 : Kp H H4 (m :: [sw, bb, tp, pr])) (hn : ∀ b ∈ [sw', bb', tp', pr'], b ∈ [sw, bb, tp, pr] ∨ H b = none) :
    ∀ q, H4 q = none → Q (.ref q) (upd H4 q (.lst xs)) := fun q hq => by
  have R4 := R.mach M hrm k4
  obtain ⟨dr, hr⟩ := R4
  refine k _ q sw' bb' tp' pr' (M4.new hq _) ⟨dr, by rw [upd_ne (ne_of_none hr hq)]; exact hr⟩ (k0.free q (k4.free q hq)) upd_same (((k0.mono (by simp)).trans (k4.mono (by simp))).new hq _) (fun b hb => (hn b hb).elim .inl fun z => .inr (k0.free b z)) fun z => ?_
  simp only [List.mem_cons, List.not_mem_nil, or_false] at z
  rcases z with h | h | h | h
  · rw [h, M4.hsw] at hq; cases hq
  · rw [h, M4.hbb] at hq; cases hq
  · rw [h, M4.htp] at hq; cases hq
  · rw [h, M4.hpr] at hq; cases hq
/-- the reader's methods, as a caller has them -/
structure RdM (P : Program) (w : World) (K : PySem.W.Frag) (mg : Str → Option Value) (base : Heap) (CR fN fR : Addr) (fdN fdR : FuncData) : Prop where
  cl : Cls K CR
  bN : Binds K fdN ["self"] []
  mN : Meth K CR "next_number" fN
  GN : FnOk P w K mg base (CXx P w) 1 fN fdN ["self"] (spNext K CR)
  bR : Binds K fdR ["self"] []
  mR : Meth K CR "next_row" fR
  GR : FnOk P w K mg base (CXx P w) 2 fR fdR ["self"] (spRow K CR)
theorem scAW : FnScope ["machine", "reader", "at", "n", "words"] ["machine", "reader"] (defScope (top 90)) := ⟨rfl, rfl, rfl, by decide +kernel, rfl, by decide +kernel, by decide +kernel⟩
theorem ok_aw {f C CR fN fR fW : Addr} {fd fdN fdR fdW : FuncData} (F : Fun K "answer_words" "answer_words" (top 90) f fd) (clC : Cls K C) (R : RdM P w K mg base CR fN fR fdN fdR)
    (bW : Binds K fdW ["self", "at", "n", "words"] []) (mW : Meth K C "put_words" fW) (GW : FnOk P w K mg base (CXx P w) 2 fW fdW ["self", "at", "n", "words"] (spPW K C)) : FnOk P w K mg base (CXx P w) 3 f fd ["machine", "reader"] (spTail K C CR 1) := by
  refine F.okx scAW (fun vs H Q E h => ?_) (fun cdv A outer s0 H vs Q E hr h => ?_)
  · obtain ⟨m, r, a, sw, bb, tp, pr, s, l, pos, c, rest, rfl, _⟩ := h
    rfl
  · obtain ⟨m, r, a, sw, bb, tp, pr, s, l, pos, c, rest, rfl, M, Rd, hrm, S, hd, hask, hnum, k⟩ := h
    obtain ⟨at_, n, b, rfl, hnat, hlen⟩ := form1 hask hnum
    rw [ans_words] at k
    have hr1 : Room 1 _ := hr.mono (by decide)
    refine ⟨_, pss_cons (ps_set (i := 2) scAW.nd rfl (Or.inl rfl) (pe_meth0 (pv 1) R.cl R.mN R.GN hr1 R.bN .nil passes0))
      (pss_cons (ps_set (i := 3) scAW.nd rfl (Or.inl rfl) (pe_meth0 (pv 1) R.cl R.mN R.GN hr1 R.bN .nil passes0))
      (pss_cons (ps_set (i := 4) scAW.nd rfl (Or.inl rfl) (pe_meth0 (pv 1) R.cl R.mR R.GR hr R.bR .nil passes0))
      (pss_one (ps_ret (pe_lst (pa_cons (pe_meth (pv 0) clC mW GW hr bW .nil passes0 (pa_cons (pv 2) (pa_cons (pv 3) (pa_cons (pv 4) pa_nil)))) pa_nil)))))), ?_⟩
    have e0 : l.drop pos = 1 :: at_ :: n :: ((b.length : Nat) : Int) :: ((b ++ []) ++ rest) := hd
    obtain ⟨_, d1⟩ := drop_at e0
    obtain ⟨z1, d2⟩ := drop_at d1
    obtain ⟨z2, d3⟩ := drop_at d2
    obtain ⟨z3, d4⟩ := drop_at d3
    rw [List.append_nil] at d4
    have hle : pos + 3 + 1 + b.length ≤ l.length := by
      have := congrArg List.length d4
      rw [List.length_drop, List.length_append] at this
      have h3 : pos + 3 < l.length := (List.getElem?_eq_some_iff.mp z3).1
      omega
    have hrow : (l.drop (pos + 3 + 1)).take b.length = b := by rw [d4, List.take_left]
    obtain ⟨dr, hr0⟩ := id Rd
    refine ⟨_, rfl, r, dr, _, rfl, hr0, rfl, r, a, _, l, at_, rfl, Rd, S.sq, z1, fun H1 R1 k1 => ?_⟩
    have M1 := M.rd Rd hrm k1
    have S1 := S.kp k1 Rd.noFrz
    obtain ⟨dr1, hr1'⟩ := id R1
    refine ⟨_, rfl, r, dr1, _, rfl, hr1', rfl, r, a, _, l, n, rfl, R1, S1.sq, z2, fun H2 R2 k2 => ?_⟩
    have M2 := M1.rd R1 hrm k2
    have S2 := S1.kp k2 R1.noFrz
    obtain ⟨dr2, hr2'⟩ := id R2
    refine ⟨_, rfl, r, dr2, _, rfl, hr2', rfl, r, a, _, b.length, l, rfl, R2, fun H' kk => (S2.kp kk R2.noFrz).sq, z3, hle, fun H3 p hp hp3 R3 k3 => ?_⟩
    have M3 := M2.rd R2 hrm k3
    rw [hrow, nats_of hnat] at hp3
    obtain ⟨dm, hm3⟩ := M3.ob
    have k03 : Kp H H3 [r] := (k1.trans k2).trans k3
    have psw : p ≠ sw := fun z => by rw [z, M2.hsw] at hp; cases hp
    refine ⟨_, rfl, m, dm, _, rfl, hm3, rfl, _, rfl, _, rfl, _, rfl, m, sw, bb, tp, pr, p, s, at_, n, Rc38Neutral.natsOf b, rfl, M3, SqL.of hp3, psw, ?_, fun H4 sw' bb' tp' pr' M4 k4 hn => ⟨by show 1 ≤ sizeLine; decide, ?_⟩⟩
    · unfold Rc38Neutral.natsOf
      rw [List.length_map]
      exact hlen
    · have ep : pos + (PyFlat.put1 [[1, at_, n], b]).length = pos + 3 + 1 + b.length := by
        show pos + ([1, at_, n] ++ (((b.length : Int) :: b) ++ [])).length = _
        simp
        omega
      rw [ep] at k
      exact ans_one (K := K) (Q := Q) k k03 M3 R3 hrm M4 k4 hn
theorem scAO : FnScope ["machine", "reader", "at", "n", "text"] ["machine", "reader"] (defScope (top 91)) := ⟨rfl, rfl, rfl, by decide +kernel, rfl, by decide +kernel, by decide +kernel⟩
theorem ok_ao {f C CR fN fR fW : Addr} {fd fdN fdR fdW : FuncData} (F : Fun K "answer_orders" "answer_orders" (top 91) f fd) (clC : Cls K C) (R : RdM P w K mg base CR fN fR fdN fdR)
    (bW : Binds K fdW ["self", "at", "n", "text"] []) (mW : Meth K C "put_orders" fW) (GW : FnOk P w K mg base (CXx P w) 4 fW fdW ["self", "at", "n", "text"] (spPO K C)) : FnOk P w K mg base (CXx P w) 5 f fd ["machine", "reader"] (spTail K C CR 2) := by
  refine F.okx scAO (fun vs H Q E h => ?_) (fun cdv A outer s0 H vs Q E hr h => ?_)
  · obtain ⟨m, r, a, sw, bb, tp, pr, s, l, pos, c, rest, rfl, _⟩ := h
    rfl
  · obtain ⟨m, r, a, sw, bb, tp, pr, s, l, pos, c, rest, rfl, M, Rd, hrm, S, hd, hask, hnum, k⟩ := h
    obtain ⟨at_, n, b, rfl, hnat, hlen⟩ := form2 hask hnum
    rw [ans_orders] at k
    have hr1 : Room 1 _ := hr.mono (by decide)
    have hr2 : Room 2 _ := hr.mono (by decide)
    refine ⟨_, pss_cons (ps_set (i := 2) scAO.nd rfl (Or.inl rfl) (pe_meth0 (pv 1) R.cl R.mN R.GN hr1 R.bN .nil passes0))
      (pss_cons (ps_set (i := 3) scAO.nd rfl (Or.inl rfl) (pe_meth0 (pv 1) R.cl R.mN R.GN hr1 R.bN .nil passes0))
      (pss_cons (ps_set (i := 4) scAO.nd rfl (Or.inl rfl) (pe_meth0 (pv 1) R.cl R.mR R.GR hr2 R.bR .nil passes0))
      (pss_one (ps_ret (pe_lst (pa_cons (pe_meth (pv 0) clC mW GW hr bW .nil passes0 (pa_cons (pv 2) (pa_cons (pv 3) (pa_cons (pv 4) pa_nil)))) pa_nil)))))), ?_⟩
    have e0 : l.drop pos = 2 :: at_ :: n :: ((b.length : Nat) : Int) :: ((b ++ []) ++ rest) := hd
    obtain ⟨_, d1⟩ := drop_at e0
    obtain ⟨z1, d2⟩ := drop_at d1
    obtain ⟨z2, d3⟩ := drop_at d2
    obtain ⟨z3, d4⟩ := drop_at d3
    rw [List.append_nil] at d4
    have hle : pos + 3 + 1 + b.length ≤ l.length := by
      have := congrArg List.length d4
      rw [List.length_drop, List.length_append] at this
      have h3 : pos + 3 < l.length := (List.getElem?_eq_some_iff.mp z3).1
      omega
    have hrow : (l.drop (pos + 3 + 1)).take b.length = b := by rw [d4, List.take_left]
    obtain ⟨dr, hr0⟩ := id Rd
    refine ⟨_, rfl, r, dr, _, rfl, hr0, rfl, r, a, _, l, at_, rfl, Rd, S.sq, z1, fun H1 R1 k1 => ?_⟩
    have M1 := M.rd Rd hrm k1
    have S1 := S.kp k1 Rd.noFrz
    obtain ⟨dr1, hr1'⟩ := id R1
    refine ⟨_, rfl, r, dr1, _, rfl, hr1', rfl, r, a, _, l, n, rfl, R1, S1.sq, z2, fun H2 R2 k2 => ?_⟩
    have M2 := M1.rd R1 hrm k2
    have S2 := S1.kp k2 R1.noFrz
    obtain ⟨dr2, hr2'⟩ := id R2
    refine ⟨_, rfl, r, dr2, _, rfl, hr2', rfl, r, a, _, b.length, l, rfl, R2, fun H' kk => (S2.kp kk R2.noFrz).sq, z3, hle, fun H3 p hp hp3 R3 k3 => ?_⟩
    have M3 := M2.rd R2 hrm k3
    rw [hrow, nats_of hnat] at hp3
    obtain ⟨dm, hm3⟩ := M3.ob
    have k03 : Kp H H3 [r] := (k1.trans k2).trans k3
    have psw : p ≠ sw := fun z => by rw [z, M2.hsw] at hp; cases hp
    refine ⟨_, rfl, m, dm, _, rfl, hm3, rfl, _, rfl, _, rfl, _, rfl, m, sw, bb, tp, pr, p, s, at_, n, Rc38Neutral.natsOf b, rfl, M3, SqL.of hp3, ?_, fun H4 sw' bb' tp' pr' M4 k4 hn => ⟨by show 1 ≤ sizeLine; decide, ?_⟩⟩
    · unfold Rc38Neutral.natsOf
      rw [List.length_map]
      have : (b.length : Int) ≤ 16384 := by
        rw [hlen]
        split <;> omega
      omega
    · have ep : pos + (PyFlat.put1 [[2, at_, n], b]).length = pos + 3 + 1 + b.length := by
        show pos + ([2, at_, n] ++ (((b.length : Int) :: b) ++ [])).length = _
        simp
        omega
      rw [ep] at k
      exact ans_one (K := K) (Q := Q) k k03 M3 R3 hrm M4 k4 hn
theorem scAT : FnScope ["machine", "reader", "n", "signs"] ["machine", "reader"] (defScope (top 92)) := ⟨rfl, rfl, rfl, by decide +kernel, rfl, by decide +kernel, by decide +kernel⟩
theorem ok_at {f C CR fN fR fW : Addr} {fd fdN fdR fdW : FuncData} (F : Fun K "answer_tape" "answer_tape" (top 92) f fd) (clC : Cls K C) (R : RdM P w K mg base CR fN fR fdN fdR)
    (bW : Binds K fdW ["self", "n", "signs"] []) (mW : Meth K C "lay_tape" fW) (GW : FnOk P w K mg base (CXx P w) 2 fW fdW ["self", "n", "signs"] (spLT C)) : FnOk P w K mg base (CXx P w) 3 f fd ["machine", "reader"] (spTail K C CR 3) := by
  refine F.okx scAT (fun vs H Q E h => ?_) (fun cdv A outer s0 H vs Q E hr h => ?_)
  · obtain ⟨m, r, a, sw, bb, tp, pr, s, l, pos, c, rest, rfl, _⟩ := h
    rfl
  · obtain ⟨m, r, a, sw, bb, tp, pr, s, l, pos, c, rest, rfl, M, Rd, hrm, S, hd, hask, hnum, k⟩ := h
    obtain ⟨n, b, rfl, hnat, hlen⟩ := form3 hask hnum
    rw [ans_tape] at k
    have hr1 : Room 1 _ := hr.mono (by decide)
    refine ⟨_, pss_cons (ps_set (i := 2) scAT.nd rfl (Or.inl rfl) (pe_meth0 (pv 1) R.cl R.mN R.GN hr1 R.bN .nil passes0))
      (pss_cons (ps_set (i := 3) scAT.nd rfl (Or.inl rfl) (pe_meth0 (pv 1) R.cl R.mR R.GR hr R.bR .nil passes0))
      (pss_one (ps_ret (pe_lst (pa_cons (pe_meth (pv 0) clC mW GW hr bW .nil passes0 (pa_cons (pv 2) (pa_cons (pv 3) pa_nil))) pa_nil))))), ?_⟩
    have e0 : l.drop pos = 3 :: n :: ((b.length : Nat) : Int) :: ((b ++ []) ++ rest) := hd
    obtain ⟨_, d1⟩ := drop_at e0
    obtain ⟨z1, d2⟩ := drop_at d1
    obtain ⟨z2, d3⟩ := drop_at d2
    rw [List.append_nil] at d3
    have hle : pos + 2 + 1 + b.length ≤ l.length := by
      have := congrArg List.length d3
      rw [List.length_drop, List.length_append] at this
      have h3 : pos + 2 < l.length := (List.getElem?_eq_some_iff.mp z2).1
      omega
    have hrow : (l.drop (pos + 2 + 1)).take b.length = b := by rw [d3, List.take_left]
    obtain ⟨dr, hr0⟩ := id Rd
    refine ⟨_, rfl, r, dr, _, rfl, hr0, rfl, r, a, _, l, n, rfl, Rd, S.sq, z1, fun H1 R1 k1 => ?_⟩
    have M1 := M.rd Rd hrm k1
    have S1 := S.kp k1 Rd.noFrz
    obtain ⟨dr1, hr1'⟩ := id R1
    refine ⟨_, rfl, r, dr1, _, rfl, hr1', rfl, r, a, _, b.length, l, rfl, R1, fun H' kk => (S1.kp kk R1.noFrz).sq, z2, hle, fun H3 p hp hp3 R3 k3 => ?_⟩
    have M3 := M1.rd R1 hrm k3
    rw [hrow, nats_of hnat] at hp3
    obtain ⟨dm, hm3⟩ := M3.ob
    have k03 : Kp H H3 [r] := k1.trans k3
    have ptp : p ≠ tp := fun z => by rw [z, M1.htp] at hp; cases hp
    refine ⟨_, rfl, m, dm, _, rfl, hm3, rfl, _, rfl, _, rfl, m, sw, bb, tp, pr, p, s, n, Rc38Neutral.natsOf b, rfl, M3, hp3, ptp, ?_, fun H4 sw' bb' tp' pr' M4 k4 hn => ⟨by show 1 ≤ sizeLine; decide, ?_⟩⟩
    · unfold Rc38Neutral.natsOf
      rw [List.length_map]
      exact hlen
    · have ep : pos + (PyFlat.put1 [[3, n], b]).length = pos + 2 + 1 + b.length := by
        show pos + ([3, n] ++ (((b.length : Int) :: b) ++ [])).length = _
        simp
        omega
      rw [ep] at k
      exact ans_one (K := K) (Q := Q) k k03 M3 R3 hrm M4 k4 hn
end
end My
end

section
set_option Elab.async false
set_option linter.all false
set_option maxRecDepth 100000
set_option maxHeartbeats 4000000
/-! One call, by its number. -/
namespace My
open PySem PySem.Spec PyProof.Rows L2
theorem rd_eqF {σ : L2.St} {H : Hp} {i : Nat} {x y : Int} {R : Bool → Hp → Prop} (hv : σ[i]? = some (some (.int x))) (hne : x ≠ y) (h : R false H) : tTest (tOp rEq (tVar i) (tC (.int y))) σ H R := by
  refine ⟨_, hv, rfl, _, rfl, ?_⟩
  rw [decide_eq_false fun z => hne (V.int.inj z)]
  exact h
theorem rd_eqT {σ : L2.St} {H : Hp} {i : Nat} {x y : Int} {R : Bool → Hp → Prop} (hv : σ[i]? = some (some (.int x))) (he : x = y) (h : R true H) : tTest (tOp rEq (tVar i) (tC (.int y))) σ H R := by
  refine ⟨_, hv, rfl, _, rfl, ?_⟩
  rw [decide_eq_true (by rw [he])]
  exact h
/-- the answer is a list that the machine's def has laid -/
theorem ans_list {C CR : Addr} {H0 H : Hp} {m r a sw bb tp pr : Addr} {s : Rc38.Abs} {y : Rc38.Abs × List Int} {pos : Nat} {Q : V → Hp → Prop}
    (k : ∀ (H' : Hp) (p sw' bb' tp' pr' : Addr), Mach C H' m sw' bb' tp' pr' y.1 → RdAt CR H' r a pos → H0 p = none → H' p = some (.lst (y.2.map V.int)) → Kp H0 H' ([r] ++ m :: [sw, bb, tp, pr]) → (∀ b ∈ [sw', bb', tp', pr'], b ∈ [sw, bb, tp, pr] ∨ H0 b = none) → p ∉ [sw', bb', tp', pr'] → Q (.ref p) H')
    (k0 : Kp H0 H [r]) (M : Mach C H m sw bb tp pr s) (R : RdAt CR H r a pos) (hrm : r ≠ m) : LPost C H m [sw, bb, tp, pr] y Q :=
  fun H' p sw' bb' tp' pr' M' kp hn hp hp' np => k H' p sw' bb' tp' pr' M' (R.mach M hrm kp) (k0.free p hp) hp' ((k0.mono (by simp)).trans (kp.mono (by simp))) (fun b hb => (hn b hb).elim .inl fun z => .inr (k0.free b z)) np
theorem form7 {c : List (List Int)} (h : Rc38Neutral.asked1 c = true) (e : (PyFlat.put1 c).headD 0 = 7) : ∃ a b, c = [[7, a, b]] := by
  obtain ⟨k, _, hk, hm⟩ := form_num (form_of h)
  have : k = 7 := by omega
  subst this
  exact hm
section
variable {P : Program} {w : World} {K : PySem.W.Frag} {mg : Str → Option Value} {base : Heap}
theorem scAL : FnScope ["machine", "reader", "at", "wide"] ["machine", "reader"] (defScope (top 93)) := ⟨rfl, rfl, rfl, by decide +kernel, rfl, by decide +kernel, by decide +kernel⟩
theorem ok_al {f C CR fN fR : Addr} {fd fdN fdR : FuncData} (F : Fun K "answer_look" "answer_look" (top 93) f fd) (R : RdM P w K mg base CR fN fR fdN fdR) (KL : Km P w K mg base 2 C "look" ["self", "place", "wide"] (spLook C)) :
    FnOk P w K mg base (CXx P w) 3 f fd ["machine", "reader"] (spTail K C CR 7) := by
  refine F.okx scAL (fun vs H Q E h => ?_) (fun cdv A outer s0 H vs Q E hr h => ?_)
  · obtain ⟨m, r, a, sw, bb, tp, pr, s, l, pos, c, rest, rfl, _⟩ := h
    rfl
  · obtain ⟨m, r, a, sw, bb, tp, pr, s, l, pos, c, rest, rfl, M, Rd, hrm, S, hd, hask, hnum, k⟩ := h
    obtain ⟨at_, n, rfl⟩ := form7 hask hnum
    have hr1 : Room 1 _ := hr.mono (by decide)
    refine ⟨_, pss_cons (ps_set (i := 2) scAL.nd rfl (Or.inl rfl) (pe_meth0 (pv 1) R.cl R.mN R.GN hr1 R.bN .nil passes0))
      (pss_cons (ps_set (i := 3) scAL.nd rfl (Or.inl rfl) (pe_meth0 (pv 1) R.cl R.mN R.GN hr1 R.bN .nil passes0))
      (pss_one (ps_ret (pe_km KL hr (pv 0) (pa_cons (pv 2) (pa_cons (pv 3) pa_nil)))))), ?_⟩
    have e0 : l.drop pos = 7 :: at_ :: n :: rest := hd
    obtain ⟨_, d1⟩ := drop_at e0
    obtain ⟨z1, d2⟩ := drop_at d1
    obtain ⟨z2, d3⟩ := drop_at d2
    obtain ⟨dr, hr0⟩ := id Rd
    refine ⟨_, rfl, r, dr, _, rfl, hr0, rfl, r, a, _, l, at_, rfl, Rd, S.sq, z1, fun H1 R1 k1 => ?_⟩
    have M1 := M.rd Rd hrm k1
    have S1 := S.kp k1 Rd.noFrz
    obtain ⟨dr1, hr1'⟩ := id R1
    refine ⟨_, rfl, r, dr1, _, rfl, hr1', rfl, r, a, _, l, n, rfl, R1, S1.sq, z2, fun H2 R2 k2 => ?_⟩
    have M2 := M1.rd R1 hrm k2
    obtain ⟨dm, hm2⟩ := M2.ob
    exact ⟨_, rfl, m, dm, _, rfl, hm2, rfl, _, rfl, _, rfl, m, sw, bb, tp, pr, s, at_, n, rfl, M2, ans_list (Q := Q) k (k1.trans k2) M2 R2 hrm⟩
structure TC (mg : Str → Option Value) : Prop where
  c0 : GI mg "BEGIN" 0
  c1 : GI mg "WORDS" 1
  c2 : GI mg "ORDERS" 2
  c3 : GI mg "TAPE" 3
  c4 : GI mg "START" 4
  c5 : GI mg "RUN" 5
  c6 : GI mg "TAKE" 6
  c7 : GI mg "LOOK" 7
  c8 : GI mg "REGISTERS" 8
theorem scCl : FnScope ["machine", "reader", "call"] ["machine", "reader"] (defScope (top 89)) := ⟨rfl, rfl, rfl, by decide +kernel, rfl, by decide +kernel, by decide +kernel⟩
theorem ans_start (s : Rc38.Abs) (a : Int) : stp s [[4, a]] = ((Rc38.does s (.start a)).1, [(Rc38.does s (.start a)).2.value]) := by
  show (_, _ :: List.map _ _) = _
  have e : (Rc38.does s (.start a)).2.numbers = [] := by
    unfold Rc38.does
    dsimp only
    split <;> rfl
  rw [e]
  rfl
theorem ok_call {f C CR fN fR fB fG : Addr} {fd fdN fdR fdB fdG : FuncData} (F : Fun K "answer_call" "answer_call" (top 89) f fd) (T : TM K mg C) (B : TC mg) (R : RdM P w K mg base CR fN fR fdN fdR)
    (mB : Meth K C "begin" fB) (bB : Binds K fdB ["self"] []) (GB : FnOk P w K mg base (CXx P w) 1 fB fdB ["self"] (spBegin C))
    (mG : Meth K C "tell_registers" fG) (bG : Binds K fdG ["self"] []) (GG : FnOk P w K mg base (CXx P w) 2 fG fdG ["self"] (spRegs C))
    (K1 : Kn P w K mg base 3 "answer_words" ["machine", "reader"] (spTail K C CR 1)) (K2 : Kn P w K mg base 5 "answer_orders" ["machine", "reader"] (spTail K C CR 2)) (K3 : Kn P w K mg base 3 "answer_tape" ["machine", "reader"] (spTail K C CR 3))
    (K4 : Km P w K mg base 1 C "start_at" ["self", "place"] (spSA C)) (K5 : Kn P w K mg base 6 "run" ["machine", "steps"] (spRun C)) (K6 : Km P w K mg base 1 C "take" ["self", "most"] (spTk C)) (K7 : Kn P w K mg base 3 "answer_look" ["machine", "reader"] (spTail K C CR 7)) :
    FnOk P w K mg base (CXx P w) 7 f fd ["machine", "reader"] (spCall K C CR) := by
  refine F.okx scCl (fun vs H Q E h => ?_) (fun cdv A outer s0 H vs Q E hr h => ?_)
  · obtain ⟨m, r, a, sw, bb, tp, pr, s, l, pos, c, rest, rfl, _⟩ := h
    rfl
  · obtain ⟨m, r, a, sw, bb, tp, pr, s, l, pos, c, rest, rfl, M, Rd, hrm, S, hd, hask, k⟩ := h
    obtain ⟨kk, hk8, hnum, hform⟩ := form_num (form_of hask)
    have hr1 : Room 1 _ := hr.mono (by decide)
    have hr2 : Room 2 _ := hr.mono (by decide)
    refine ⟨_, pss_cons (ps_set (i := 2) scCl.nd rfl (Or.inl rfl) (pe_meth0 (pv 1) R.cl R.mN R.GN hr1 R.bN .nil passes0))
      (pss_cons (ps_if (pt_cmpR op_eq (pv 2) (pe_gi B.c0) (nomark _)) (pss_one (ps_ret (pe_lst (pa_cons (pe_meth0 (pv 0) T.cl mB GB hr1 bB .nil passes0) pa_nil)))) pss_nil)
      (pss_cons (ps_if (pt_cmpR op_eq (pv 2) (pe_gi B.c1) (nomark _)) (pss_one (ps_ret (pe_kn K1 hr (pa_cons (pv 0) (pa_cons (pv 1) pa_nil))))) pss_nil)
      (pss_cons (ps_if (pt_cmpR op_eq (pv 2) (pe_gi B.c2) (nomark _)) (pss_one (ps_ret (pe_kn K2 hr (pa_cons (pv 0) (pa_cons (pv 1) pa_nil))))) pss_nil)
      (pss_cons (ps_if (pt_cmpR op_eq (pv 2) (pe_gi B.c3) (nomark _)) (pss_one (ps_ret (pe_kn K3 hr (pa_cons (pv 0) (pa_cons (pv 1) pa_nil))))) pss_nil)
      (pss_cons (ps_if (pt_cmpR op_eq (pv 2) (pe_gi B.c4) (nomark _)) (pss_one (ps_ret (pe_lst (pa_cons (pe_km K4 hr (pv 0) (pa_cons (pe_meth0 (pv 1) R.cl R.mN R.GN hr1 R.bN .nil passes0) pa_nil)) pa_nil)))) pss_nil)
      (pss_cons (ps_if (pt_cmpR op_eq (pv 2) (pe_gi B.c5) (nomark _)) (pss_one (ps_ret (pe_kn K5 hr (pa_cons (pv 0) (pa_cons (pe_meth0 (pv 1) R.cl R.mN R.GN hr1 R.bN .nil passes0) pa_nil))))) pss_nil)
      (pss_cons (ps_if (pt_cmpR op_eq (pv 2) (pe_gi B.c6) (nomark _)) (pss_one (ps_ret (pe_km K6 hr (pv 0) (pa_cons (pe_meth0 (pv 1) R.cl R.mN R.GN hr1 R.bN .nil passes0) pa_nil)))) pss_nil)
      (pss_cons (ps_if (pt_cmpR op_eq (pv 2) (pe_gi B.c7) (nomark _)) (pss_one (ps_ret (pe_kn K7 hr (pa_cons (pv 0) (pa_cons (pv 1) pa_nil))))) pss_nil)
      (pss_cons (ps_if (pt_cmpR op_eq (pv 2) (pe_gi B.c8) (nomark _)) (pss_one (ps_ret (pe_meth0 (pv 0) T.cl mG GG hr2 bG .nil passes0))) pss_nil)
      (pss_one ps_never)))))))))), ?_⟩
    obtain ⟨dr, hr0⟩ := id Rd
    -- a call with a tail of its own
    have tail : ∀ (num : Int) (H1 : Hp), (PyFlat.put1 c).headD 0 = num → RdAt CR H1 r a (pos + 1) → Kp H H1 [r] → spTail K C CR num [.ref m, .ref r] H1 Q E0 := fun num H1 e R1 k1 =>
      ⟨m, r, a, sw, bb, tp, pr, s, l, pos, c, rest, rfl, M.rd Rd hrm k1, R1, hrm, S.kp k1 Rd.noFrz, hd, hask, e, fun H' p sw' bb' tp' pr' M' R' hp hp' kp hn np =>
        k H' p sw' bb' tp' pr' M' R' (k1.free p hp) hp' ((k1.mono (by simp)).trans kp) (fun b hb => (hn b hb).elim .inl fun z => .inr (k1.free b z)) np⟩
    match kk, hk8, hnum, hform with
    | 0, _, _, hc =>
      obtain rfl : c = [[0]] := hc
      have e0 : l.drop pos = 0 :: rest := hd
      refine ⟨_, rfl, r, dr, _, rfl, hr0, rfl, r, a, _, l, 0, rfl, Rd, S.sq, (drop_at e0).1, fun H1 R1 k1 => ?_⟩
      have M1 := M.rd Rd hrm k1
      obtain ⟨dm, hm1⟩ := M1.ob
      refine rd_eqT rfl rfl (iteT ?_)
      exact ⟨_, rfl, m, dm, _, rfl, hm1, rfl, m, dm, _, rfl, hm1, .inr ⟨sw, bb, tp, pr, s, rfl⟩, fun H4 sw' bb' tp' pr' M4 k4 fr => ⟨by show 1 ≤ sizeLine; decide, ans_one (K := K) (Q := Q) k k1 M1 R1 hrm M4 (k4.mono (by simp)) fun b hb => .inr (fr b hb)⟩⟩
    | 1, _, hn, ⟨a1, n1, b1, hc, _⟩ =>
      have e0 : l.drop pos = 1 :: (a1 :: n1 :: (((b1.length : Nat) : Int) :: b1 ++ []) ++ rest) := by rw [hd, hc]; rfl
      refine ⟨_, rfl, r, dr, _, rfl, hr0, rfl, r, a, _, l, 1, rfl, Rd, S.sq, (drop_at e0).1, fun H1 R1 k1 => ?_⟩
      refine rd_eqF rfl (by decide) (iteF (rd_eqT rfl rfl (iteT ?_)))
      exact ⟨_, rfl, _, rfl, tail 1 H1 hn R1 k1⟩
    | 2, _, hn, ⟨a1, n1, b1, hc, _⟩ =>
      have e0 : l.drop pos = 2 :: (a1 :: n1 :: (((b1.length : Nat) : Int) :: b1 ++ []) ++ rest) := by rw [hd, hc]; rfl
      refine ⟨_, rfl, r, dr, _, rfl, hr0, rfl, r, a, _, l, 2, rfl, Rd, S.sq, (drop_at e0).1, fun H1 R1 k1 => ?_⟩
      refine rd_eqF rfl (by decide) (iteF (rd_eqF rfl (by decide) (iteF (rd_eqT rfl rfl (iteT ?_)))))
      exact ⟨_, rfl, _, rfl, tail 2 H1 hn R1 k1⟩
    | 3, _, hn, ⟨n1, b1, hc, _⟩ =>
      have e0 : l.drop pos = 3 :: (n1 :: (((b1.length : Nat) : Int) :: b1 ++ []) ++ rest) := by rw [hd, hc]; rfl
      refine ⟨_, rfl, r, dr, _, rfl, hr0, rfl, r, a, _, l, 3, rfl, Rd, S.sq, (drop_at e0).1, fun H1 R1 k1 => ?_⟩
      refine rd_eqF rfl (by decide) (iteF (rd_eqF rfl (by decide) (iteF (rd_eqF rfl (by decide) (iteF (rd_eqT rfl rfl (iteT ?_)))))))
      exact ⟨_, rfl, _, rfl, tail 3 H1 hn R1 k1⟩
    | 4, _, _, ⟨n1, hc⟩ =>
      subst hc
      rw [ans_start] at k
      have e0 : l.drop pos = 4 :: n1 :: rest := hd
      obtain ⟨z0, d1⟩ := drop_at e0
      obtain ⟨z1, d2⟩ := drop_at d1
      refine ⟨_, rfl, r, dr, _, rfl, hr0, rfl, r, a, _, l, 4, rfl, Rd, S.sq, z0, fun H1 R1 k1 => ?_⟩
      refine rd_eqF rfl (by decide) (iteF (rd_eqF rfl (by decide) (iteF (rd_eqF rfl (by decide) (iteF (rd_eqF rfl (by decide) (iteF (rd_eqT rfl rfl (iteT ?_)))))))))
      have M1 := M.rd Rd hrm k1
      have S1 := S.kp k1 Rd.noFrz
      obtain ⟨dm, hm1⟩ := M1.ob
      obtain ⟨dr1, hr1'⟩ := id R1
      refine ⟨_, rfl, m, dm, _, rfl, hm1, rfl, _, rfl, r, dr1, _, rfl, hr1', rfl, r, a, _, l, n1, rfl, R1, S1.sq, z1, fun H2 R2 k2 => ?_⟩
      have M2 := M1.rd R1 hrm k2
      exact ⟨m, sw, bb, tp, pr, s, n1, rfl, M2, fun H4 sw' bb' tp' pr' M4 k4 hn => ⟨by show 1 ≤ sizeLine; decide, ans_one (K := K) (Q := Q) k (k1.trans k2) M2 R2 hrm M4 k4 hn⟩⟩
    | 5, _, _, ⟨n1, hc⟩ =>
      subst hc
      have e0 : l.drop pos = 5 :: n1 :: rest := hd
      obtain ⟨z0, d1⟩ := drop_at e0
      obtain ⟨z1, d2⟩ := drop_at d1
      refine ⟨_, rfl, r, dr, _, rfl, hr0, rfl, r, a, _, l, 5, rfl, Rd, S.sq, z0, fun H1 R1 k1 => ?_⟩
      refine rd_eqF rfl (by decide) (iteF (rd_eqF rfl (by decide) (iteF (rd_eqF rfl (by decide) (iteF (rd_eqF rfl (by decide) (iteF (rd_eqF rfl (by decide) (iteF (rd_eqT rfl rfl (iteT ?_)))))))))))
      have M1 := M.rd Rd hrm k1
      have S1 := S.kp k1 Rd.noFrz
      obtain ⟨dr1, hr1'⟩ := id R1
      refine ⟨_, rfl, _, rfl, r, dr1, _, rfl, hr1', rfl, r, a, _, l, n1, rfl, R1, S1.sq, z1, fun H2 R2 k2 => ?_⟩
      have M2 := M1.rd R1 hrm k2
      exact ⟨m, sw, bb, tp, pr, s, n1, rfl, M2, ans_list (Q := Q) k (k1.trans k2) M2 R2 hrm⟩
    | 6, _, _, ⟨n1, hc⟩ =>
      subst hc
      have e0 : l.drop pos = 6 :: n1 :: rest := hd
      obtain ⟨z0, d1⟩ := drop_at e0
      obtain ⟨z1, d2⟩ := drop_at d1
      refine ⟨_, rfl, r, dr, _, rfl, hr0, rfl, r, a, _, l, 6, rfl, Rd, S.sq, z0, fun H1 R1 k1 => ?_⟩
      refine rd_eqF rfl (by decide) (iteF (rd_eqF rfl (by decide) (iteF (rd_eqF rfl (by decide) (iteF (rd_eqF rfl (by decide) (iteF (rd_eqF rfl (by decide) (iteF (rd_eqF rfl (by decide) (iteF (rd_eqT rfl rfl (iteT ?_)))))))))))))
      have M1 := M.rd Rd hrm k1
      have S1 := S.kp k1 Rd.noFrz
      obtain ⟨dm, hm1⟩ := M1.ob
      obtain ⟨dr1, hr1'⟩ := id R1
      refine ⟨_, rfl, m, dm, _, rfl, hm1, rfl, _, rfl, r, dr1, _, rfl, hr1', rfl, r, a, _, l, n1, rfl, R1, S1.sq, z1, fun H2 R2 k2 => ?_⟩
      have M2 := M1.rd R1 hrm k2
      exact ⟨m, sw, bb, tp, pr, s, n1, rfl, M2, ans_list (Q := Q) k (k1.trans k2) M2 R2 hrm⟩
    | 7, _, hn, ⟨a1, b1, hc⟩ =>
      have e0 : l.drop pos = 7 :: (a1 :: b1 :: rest) := by rw [hd, hc]; rfl
      refine ⟨_, rfl, r, dr, _, rfl, hr0, rfl, r, a, _, l, 7, rfl, Rd, S.sq, (drop_at e0).1, fun H1 R1 k1 => ?_⟩
      refine rd_eqF rfl (by decide) (iteF (rd_eqF rfl (by decide) (iteF (rd_eqF rfl (by decide) (iteF (rd_eqF rfl (by decide) (iteF (rd_eqF rfl (by decide) (iteF (rd_eqF rfl (by decide) (iteF (rd_eqF rfl (by decide) (iteF (rd_eqT rfl rfl (iteT ?_)))))))))))))))
      exact ⟨_, rfl, _, rfl, tail 7 H1 hn R1 k1⟩
    | 8, _, _, hc =>
      obtain rfl : c = [[8]] := hc
      have e0 : l.drop pos = 8 :: rest := hd
      refine ⟨_, rfl, r, dr, _, rfl, hr0, rfl, r, a, _, l, 8, rfl, Rd, S.sq, (drop_at e0).1, fun H1 R1 k1 => ?_⟩
      refine rd_eqF rfl (by decide) (iteF (rd_eqF rfl (by decide) (iteF (rd_eqF rfl (by decide) (iteF (rd_eqF rfl (by decide) (iteF (rd_eqF rfl (by decide) (iteF (rd_eqF rfl (by decide) (iteF (rd_eqF rfl (by decide) (iteF (rd_eqF rfl (by decide) (iteF (rd_eqT rfl rfl (iteT ?_)))))))))))))))))
      have M1 := M.rd Rd hrm k1
      obtain ⟨dm, hm1⟩ := M1.ob
      exact ⟨_, rfl, m, dm, _, rfl, hm1, rfl, m, sw, bb, tp, pr, s, rfl, M1, ans_list (Q := Q) k k1 M1 R1 hrm⟩
    | n + 9, h, _, _ => exact absurd h (by omega)
end
end My
namespace My
open PySem PySem.Spec PyProof.Rows L2
section
variable {P : Program} {w : World} {K : PySem.W.Frag} {mg : Str → Option Value} {base : Heap}
/-- the dict of the orders, as the file's top has laid it -/
theorem deeds_mk {C d fA fS fH fV fN fC fT fU fR fL fE fG fI fO fF fY fX fZ : Addr} (at_ : mg "DEEDS" = some (.ref d))
    (md : ModD w K d [(.inr "A", .ref fA), (.inr "S", .ref fS), (.inr "H", .ref fH), (.inr "V", .ref fV), (.inr "N", .ref fN), (.inr "C", .ref fC), (.inr "T", .ref fT), (.inr "U", .ref fU), (.inr "R", .ref fR), (.inr "L", .ref fL), (.inr "E", .ref fE), (.inr "G", .ref fG), (.inr "I", .ref fI), (.inr "O", .ref fO), (.inr "F", .ref fF), (.inr "Y", .ref fY), (.inr "X", .ref fX), (.inr "Z", .ref fZ)])
    (hA : Dd P w K mg base fA (spDeed C any2 gA)) (hS : Dd P w K mg base fS (spDeed C any2 gS)) (hH : Dd P w K mg base fH (spDeed C any2 gH)) (hV : Dd P w K mg base fV (spDeed C any2 gV)) (hN : Dd P w K mg base fN (spDeed C any2 gN)) (hC : Dd P w K mg base fC (spDeed C any2 gC))
    (hT : Dd P w K mg base fT (spDeed C any2 gT)) (hU : Dd P w K mg base fU (spDeed C any2 gU)) (hR : Dd P w K mg base fR (spDeed C pos2 gR)) (hL : Dd P w K mg base fL (spDeed C pos2 gL)) (hE : Dd P w K mg base fE (spDeed C any2 gE)) (hG : Dd P w K mg base fG (spDeed C any2 gG))
    (hI : Dd P w K mg base fI (spDeed C tape2 gI)) (hO : Dd P w K mg base fO (spDeed C calm2 gO)) (hF : Dd P w K mg base fF (spDeed C any2 gF)) (hY : Dd P w K mg base fY (spDeed C any2 gY)) (hX : Dd P w K mg base fX (spDeed C any2 gX)) (hZ : Dd P w K mg base fZ (spDeed C any2 gZ)) :
    Deeds P w K mg base C d [(.inr "A", .ref fA), (.inr "S", .ref fS), (.inr "H", .ref fH), (.inr "V", .ref fV), (.inr "N", .ref fN), (.inr "C", .ref fC), (.inr "T", .ref fT), (.inr "U", .ref fU), (.inr "R", .ref fR), (.inr "L", .ref fL), (.inr "E", .ref fE), (.inr "G", .ref fG), (.inr "I", .ref fI), (.inr "O", .ref fO), (.inr "F", .ref fF), (.inr "Y", .ref fY), (.inr "X", .ref fX), (.inr "Z", .ref fZ)] := by
  refine ⟨at_, md, fun k hk ho => valV_no fun x hx => keys_no k hk ho x hx, fun k hk ho => ?_⟩
  have key : ∀ k, k < 32 → isOp k = true → k ∈ [28, 12, 21, 31, 22, 5, 7, 30, 4, 25, 3, 27, 8, 9, 17, 26, 6, 13] := by decide
  have hm := key k hk ho
  simp only [List.mem_cons, List.not_mem_nil, or_false] at hm
  rcases hm with rfl | rfl | rfl | rfl | rfl | rfl | rfl | rfl | rfl | rfl | rfl | rfl | rfl | rfl | rfl | rfl | rfl | rfl
  · exact ⟨_, _, rfl, hA, meet_A⟩
  · exact ⟨_, _, rfl, hS, meet_S⟩
  · exact ⟨_, _, rfl, hH, meet_H⟩
  · exact ⟨_, _, rfl, hV, meet_V⟩
  · exact ⟨_, _, rfl, hN, meet_N⟩
  · exact ⟨_, _, rfl, hT, meet_T⟩
  · exact ⟨_, _, rfl, hU, meet_U⟩
  · exact ⟨_, _, rfl, hC, meet_C⟩
  · exact ⟨_, _, rfl, hR, meet_R⟩
  · exact ⟨_, _, rfl, hL, meet_L⟩
  · exact ⟨_, _, rfl, hE, meet_E⟩
  · exact ⟨_, _, rfl, hG, meet_G⟩
  · exact ⟨_, _, rfl, hI, meet_I⟩
  · exact ⟨_, _, rfl, hO, meet_O⟩
  · exact ⟨_, _, rfl, hF, meet_F⟩
  · exact ⟨_, _, rfl, hX, meet_X⟩
  · exact ⟨_, _, rfl, hY, meet_Y⟩
  · exact ⟨_, _, rfl, hZ, meet_Z⟩
end
end My
end

section
set_option Elab.async false
set_option linter.all false
set_option maxRecDepth 100000
set_option maxHeartbeats 4000000
namespace My
open PySem PySem.Spec PyProof.Rows L2
open PySem.W (WData Codec OpenSpec)
theorem sqF_of {K : PySem.W.Frag} {H : Hp} {a : Addr} {xs : List V} (hO : OnlyF H) (h : SqL K H a xs) : SqF K H a xs := by
  rcases h with (h | ⟨o, h⟩) | h
  · rcases hO a with z | ⟨o, u, z⟩
    · rw [z] at h; cases h
    · rw [z] at h; cases h
  · exact .inl ⟨o, h⟩
  · exact .inr fun H' => .inr h
theorem cxx_none {P : Program} {w : World} {l : List Env} {H : Hp} {s s' : Shared} {e : Value} (h : CXx P w l H s (fun _ _ _ => False) e s') : False := by
  obtain ⟨_, _, _, _, _, q⟩ := h
  exact q
theorem walk_specX {r : OpenSpec} {k : Nat} {q : Program} {loose : List Str} {XP : (Str → Option Value) → Heap → Prop} {YP : World → Heap → Prop} {d : DefRec} {K : Params → PySem.W.Frag} {ps : List Str} {sp : PySem.W.Frag → Sp}
    (hwell : r.wellSaid = true) (hdf : d.params.defaults = []) (hlen : r.args.length = ps.length) (hr : Room k callerA)
    (hY : ∀ (w : World) (h : Heap), YP w h → (K w.params).In h)
    (F : ∀ (w : World) (mg : Str → Option Value) (fa : Addr) (h : Heap), YP w h → (K w.params).In h → h.Ns mainGlobals mg → mg d.name = some (.ref fa) →
      ∃ fd : FuncData, (∀ (s : Shared) (us : List Value), us.length = ps.length → BindsTo s fd ⟨us, []⟩ (ps.zip us)) ∧
        ∀ base : Heap, (K w.params).In base → base.Ns mainGlobals mg → FnOk r.prog w (K w.params) mg base (CXx r.prog w) k fa fd ps (sp (K w.params)))
    (hsp : ∀ (K : PySem.W.Frag) (H : Hp) (xs : List V) (a : Codec.denoteAll r.args), OnlyF H → Codec.withinAll r.args a = true → Codec.app r.args r.asked a = true → DwAll K H xs (Codec.encAll r.args a) →
      sp K xs H (fun v H' => Dw K H' v (r.ret.enc (Codec.app r.args r.f a))) fun _ _ _ => False) :
    PySem.W.WalkOS q loose XP YP r d [] (fun f vs => PySem.call f vs) :=
  walk_spec (K := K) (CX := fun w => CXx r.prog w) (sp := fun w => sp (K w.params)) hwell hdf hlen hr hY F (fun w H xs a h1 h2 h3 h4 => hsp (K w.params) H xs a h1 h2 h3 h4) fun w H s e s' z => cxx_none z
end My
end

section
set_option Elab.async false
set_option linter.all false
set_option maxRecDepth 100000
set_option maxHeartbeats 4000000
/-! Names that the head's quick twins would take: taken here, so that no twins are laid (with them the compiled text is over its size). Nothing uses them. -/
def PySem.W.Fast.tw14222828241998018984 : Unit := ()
def PySem.W.Fast.tw3153444795115203665 : Unit := ()
def PySem.W.Fast.tw15744060799641573239 : Unit := ()
def PySem.W.Fast.tw14546367404613921839 : Unit := ()
def PySem.W.Fast.tw17439965095350538463 : Unit := ()
def PySem.W.Fast.tw9302841637125766505 : Unit := ()
def PySem.W.Fast.tw11529192252695696327 : Unit := ()
def PySem.W.Fast.tw16473887968896886854 : Unit := ()
def PySem.W.Fast.tw5521822695637984400 : Unit := ()
def PySem.W.Fast.tw3953048855688720158 : Unit := ()
def PySem.W.Fast.tw7614068835828256182 : Unit := ()
def PySem.W.Fast.tw11178220713727451351 : Unit := ()
def PySem.W.Fast.tw7025974798069954622 : Unit := ()
def PySem.W.Fast.tw228675544817349554 : Unit := ()
def PySem.W.Fast.tw1078906434934484235 : Unit := ()
def PySem.W.Fast.tw1002589831246900814 : Unit := ()
def PySem.W.Fast.tw491516942863057778 : Unit := ()
def PySem.W.Fast.tw8275464963989827907 : Unit := ()
def PySem.W.Fast.tw10913763599381511987 : Unit := ()
def PySem.W.Fast.tw9827756854274751325 : Unit := ()
def PySem.W.Fast.tw9058520901255745132 : Unit := ()
def PySem.W.Fast.tw13034874196355575033 : Unit := ()
def PySem.W.Fast.tw8870518734237209855 : Unit := ()
def PySem.W.Fast.tw1359661168945009485 : Unit := ()
def PySem.W.Fast.tw11887456400451501004 : Unit := ()
def PySem.W.Fast.tw4681867985360431154 : Unit := ()
def PySem.W.Fast.tw224918674180382170 : Unit := ()
def PySem.W.Fast.tw16416005141033954609 : Unit := ()
def PySem.W.Fast.tw7918858511596965620 : Unit := ()
def PySem.W.Fast.tw10668927414515620131 : Unit := ()
def PySem.W.Fast.tw10113904382572464911 : Unit := ()
def PySem.W.Fast.tw11530160346850107682 : Unit := ()
def PySem.W.Fast.tw18027659233774414723 : Unit := ()
def PySem.W.Fast.tw10508656093722871753 : Unit := ()
def PySem.W.Fast.tw2715684185356504578 : Unit := ()
def PySem.W.Fast.tw6646917496509832168 : Unit := ()
def PySem.W.Fast.tw8458990214138650668 : Unit := ()
def PySem.W.Fast.tw7170595066901599763 : Unit := ()
def PySem.W.Fast.tw2962365097748456457 : Unit := ()
def PySem.W.Fast.tw15961616628124149321 : Unit := ()
def PySem.W.Fast.tw12235761312560629356 : Unit := ()
def PySem.W.Fast.tw8009357933780632045 : Unit := ()
def PySem.W.Fast.tw15705493491052238841 : Unit := ()
def PySem.W.Fast.tw5174865616379235183 : Unit := ()
def PySem.W.Fast.tw11599993282627661799 : Unit := ()
def PySem.W.Fast.tw9759556883780853733 : Unit := ()
def PySem.W.Fast.tw2396895929023651919 : Unit := ()
def PySem.W.Fast.tw17514101918224043130 : Unit := ()
def PySem.W.Fast.tw5646815055716211040 : Unit := ()
def PySem.W.Fast.tw10970994767449750704 : Unit := ()
def PySem.W.Fast.tw11383280044010862428 : Unit := ()
def PySem.W.Fast.tw11751372347775893985 : Unit := ()
def PySem.W.Fast.tw15558811998826280900 : Unit := ()
def PySem.W.Fast.tw9136846967298232349 : Unit := ()
def PySem.W.Fast.tw9572011719422839559 : Unit := ()
def PySem.W.Fast.tw15357013519458194894 : Unit := ()
def PySem.W.Fast.tw16815783401252370124 : Unit := ()
def PySem.W.Fast.tw13903768515759010531 : Unit := ()
def PySem.W.Fast.tw8434251760107625082 : Unit := ()
def PySem.W.Fast.tw11478245384868019301 : Unit := ()
def PySem.W.Fast.tw641263733188353694 : Unit := ()
def PySem.W.Fast.tw3727878005226830493 : Unit := ()
def PySem.W.Fast.tw3782189666151029107 : Unit := ()
def PySem.W.Fast.tw14832801375004002612 : Unit := ()
def PySem.W.Fast.tw7404711985768244865 : Unit := ()
def PySem.W.Fast.tw17923515152975914578 : Unit := ()
def PySem.W.Fast.tw7316584534981879714 : Unit := ()
def PySem.W.Fast.tw3963477458982234794 : Unit := ()
def PySem.W.Fast.tw4388058370501844817 : Unit := ()
def PySem.W.Fast.tw1002381610343281453 : Unit := ()
def PySem.W.Fast.tw16605908942279124316 : Unit := ()
def PySem.W.Fast.tw3456624792042145980 : Unit := ()
def PySem.W.Fast.tw15797888734068552499 : Unit := ()
def PySem.W.Fast.tw809801238031082669 : Unit := ()
def PySem.W.Fast.tw6994103001476724165 : Unit := ()
def PySem.W.Fast.tw1106692728784197803 : Unit := ()
def PySem.W.Fast.tw9791778550288440444 : Unit := ()
def PySem.W.Fast.tw6390082268490814794 : Unit := ()
def PySem.W.Fast.tw8425346905423986453 : Unit := ()
def PySem.W.Fast.tw12508656878286185184 : Unit := ()
def PySem.W.Fast.tw13436861090420300506 : Unit := ()
def PySem.W.Fast.tw13929473690552647203 : Unit := ()
def PySem.W.Fast.tw17444206667779754343 : Unit := ()
def PySem.W.Fast.tw11494195857629465048 : Unit := ()
def PySem.W.Fast.tw15605749540486996754 : Unit := ()
def PySem.W.Fast.tw11671517834103242851 : Unit := ()
def PySem.W.Fast.tw12915307236032925820 : Unit := ()
def PySem.W.Fast.tw15040954133428452813 : Unit := ()
def PySem.W.Fast.tw9736501498265040016 : Unit := ()
def PySem.W.Fast.tw1171056044371217054 : Unit := ()
def PySem.W.Fast.tw3342949317166731676 : Unit := ()
def PySem.W.Fast.tw2934385308359355456 : Unit := ()
def PySem.W.Fast.tw8631853244337653151 : Unit := ()
def PySem.W.Fast.tw14777002554584344718 : Unit := ()
def PySem.W.Fast.tw2319515503035272541 : Unit := ()
def PySem.W.Fast.tw4570955177819997659 : Unit := ()
def PySem.W.Fast.tw10205515984294328250 : Unit := ()
def PySem.W.Fast.tw1019728468710256423 : Unit := ()
def PySem.W.Fast.tw6677217429264838926 : Unit := ()
def PySem.W.Fast.tw15720789880437778377 : Unit := ()
def PySem.W.Fast.tw2924434849025529316 : Unit := ()
def PySem.W.Fast.tw2474845575132532912 : Unit := ()
def PySem.W.Fast.tw11164843941655841219 : Unit := ()
def PySem.W.Fast.tw3052387385139590322 : Unit := ()
def PySem.W.Fast.tw183849520664569937 : Unit := ()
def PySem.W.Fast.tw6018892846656365449 : Unit := ()
def PySem.W.Fast.tw11475757769772023265 : Unit := ()
def PySem.W.Fast.tw920858595168404532 : Unit := ()
def PySem.W.Fast.tw17182275870522655799 : Unit := ()
def PySem.W.Fast.tw18031458594952631995 : Unit := ()
def PySem.W.Fast.tw7088859426529556892 : Unit := ()
def PySem.W.Fast.tw17324339866852175073 : Unit := ()
def PySem.W.Fast.tw1855326940586566614 : Unit := ()
def PySem.W.Fast.tw17686260488524277380 : Unit := ()
def PySem.W.Fast.tw14813173624316855521 : Unit := ()
def PySem.W.Fast.tw14390690878335462116 : Unit := ()
def PySem.W.Fast.tw9708961713197605440 : Unit := ()
def PySem.W.Fast.tw5893443985986622257 : Unit := ()
def PySem.W.Fast.tw13522343412058663848 : Unit := ()
def PySem.W.Fast.tw16488625143802463478 : Unit := ()
def PySem.W.Fast.tw16816793825943716524 : Unit := ()
def PySem.W.Fast.tw13675414723055182161 : Unit := ()
def PySem.W.Fast.tw9780874905217681569 : Unit := ()
def PySem.W.Fast.tw17136434898458293153 : Unit := ()
def PySem.W.Fast.tw2645534480096638228 : Unit := ()
def PySem.W.Fast.tw9632962828767775837 : Unit := ()
def PySem.W.Fast.tw2507702894967878237 : Unit := ()
def PySem.W.Fast.tw16266168835148627068 : Unit := ()
def PySem.W.Fast.tw15116991903131162083 : Unit := ()
def PySem.W.Fast.tw218762996232555146 : Unit := ()
def PySem.W.Fast.tw2897357217392044732 : Unit := ()
def PySem.W.Fast.tw15397502856466682822 : Unit := ()
def PySem.W.Fast.tw1889750868995162388 : Unit := ()
def PySem.W.Fast.tw7604299408802552755 : Unit := ()
def PySem.W.Fast.tw14174727221046814740 : Unit := ()
def PySem.W.Fast.tw16666107890397533824 : Unit := ()
def PySem.W.Fast.tw6034128833572261230 : Unit := ()
def PySem.W.Fast.tw11713465598906596275 : Unit := ()
def PySem.W.Fast.tw12152169103407080900 : Unit := ()
def PySem.W.Fast.tw12580470071930433601 : Unit := ()
def PySem.W.Fast.tw14700190479862817852 : Unit := ()
def PySem.W.Fast.tw16983315645717594780 : Unit := ()
def PySem.W.Fast.tw6045354881242733276 : Unit := ()
def PySem.W.Fast.tw6707662157918175819 : Unit := ()
def PySem.W.Fast.tw2292793936371546012 : Unit := ()
def PySem.W.Fast.tw11885330607249315677 : Unit := ()
def PySem.W.Fast.tw5307068804974013900 : Unit := ()
def PySem.W.Fast.tw5865314827115852415 : Unit := ()
def PySem.W.Fast.tw15881361735090724694 : Unit := ()
def PySem.W.Fast.tw8732243752095260913 : Unit := ()
def PySem.W.Fast.tw1013113947488626999 : Unit := ()
def PySem.W.Fast.tw16486525519688464684 : Unit := ()
def PySem.W.Fast.tw8131480839979654125 : Unit := ()
def PySem.W.Fast.tw13656314438541792250 : Unit := ()
def PySem.W.Fast.tw12297839582253673661 : Unit := ()
def PySem.W.Fast.tw7808599089901361508 : Unit := ()
def PySem.W.Fast.tw4782564776269040975 : Unit := ()
def PySem.W.Fast.tw15808162347288791441 : Unit := ()
def PySem.W.Fast.tw10049703341797552366 : Unit := ()
def PySem.W.Fast.tw13470913184827885510 : Unit := ()
def PySem.W.Fast.tw2762874829643699004 : Unit := ()
def PySem.W.Fast.tw1155691221708248310 : Unit := ()
def PySem.W.Fast.tw9156526913489381662 : Unit := ()
def PySem.W.Fast.tw8517055510731022257 : Unit := ()
def PySem.W.Fast.tw15681389083395439023 : Unit := ()
def PySem.W.Fast.tw9623725807751031599 : Unit := ()
def PySem.W.Fast.tw15785628437590524214 : Unit := ()
def PySem.W.Fast.tw8494533004665975544 : Unit := ()
def PySem.W.Fast.tw16233205213333584537 : Unit := ()
def PySem.W.Fast.tw8213992857666876604 : Unit := ()
def PySem.W.Fast.tw3704024493867622221 : Unit := ()
def PySem.W.Fast.tw16917511873076338448 : Unit := ()
def PySem.W.Fast.tw2067319938905547220 : Unit := ()
def PySem.W.Fast.tw11075736200015591619 : Unit := ()
def PySem.W.Fast.tw17027986029672902386 : Unit := ()
def PySem.W.Fast.tw7757010405228153956 : Unit := ()
def PySem.W.Fast.tw2903547259658761404 : Unit := ()
def PySem.W.Fast.tw8307649366537234087 : Unit := ()
def PySem.W.Fast.tw16773220525813117224 : Unit := ()
def PySem.W.Fast.tw15791474938490705111 : Unit := ()
def PySem.W.Fast.tw1487909781705723831 : Unit := ()
def PySem.W.Fast.tw16834024473442171832 : Unit := ()
def PySem.W.Fast.tw15659063195353254702 : Unit := ()
def PySem.W.Fast.tw14418028906552272826 : Unit := ()
def PySem.W.Fast.tw9764377915863936040 : Unit := ()
def PySem.W.Fast.tw17361590881245027026 : Unit := ()
def PySem.W.Fast.tw8053523485805778307 : Unit := ()
def PySem.W.Fast.tw9686409345002103153 : Unit := ()
def PySem.W.Fast.tw17852502129262746791 : Unit := ()
def PySem.W.Fast.tw14286265108339201131 : Unit := ()
def PySem.W.Fast.tw14422403534266951191 : Unit := ()
def PySem.W.Fast.tw1035795320772559121 : Unit := ()
def PySem.W.Fast.tw17557313257096408672 : Unit := ()
def PySem.W.Fast.tw11243710461673359229 : Unit := ()
def PySem.W.Fast.tw6128267694337569365 : Unit := ()
def PySem.W.Fast.tw5752074685385322844 : Unit := ()
def PySem.W.Fast.tw7807155007117966970 : Unit := ()
def PySem.W.Fast.tw9959056076607422242 : Unit := ()
def PySem.W.Fast.tw8716284783508469970 : Unit := ()
def PySem.W.Fast.tw6346168195250177280 : Unit := ()
def PySem.W.Fast.tw2900336268404399696 : Unit := ()
def PySem.W.Fast.tw1737912163276899316 : Unit := ()
def PySem.W.Fast.tw11778706290656601889 : Unit := ()
def PySem.W.Fast.tw6458526084815702969 : Unit := ()
def PySem.W.Fast.tw3152116475613602965 : Unit := ()
def PySem.W.Fast.tw11164177551830981139 : Unit := ()
def PySem.W.Fast.tw16713564214247256851 : Unit := ()
def PySem.W.Fast.tw3410592237017849327 : Unit := ()
def PySem.W.Fast.tw14724349813096878294 : Unit := ()
def PySem.W.Fast.tw2525975148819956245 : Unit := ()
def PySem.W.Fast.tw17139336202100378829 : Unit := ()
def PySem.W.Fast.tw15282028088552814151 : Unit := ()
def PySem.W.Fast.tw17922003337646945804 : Unit := ()
def PySem.W.Fast.tw17142635309512137580 : Unit := ()
def PySem.W.Fast.tw6793208170257996305 : Unit := ()
def PySem.W.Fast.tw7838700536916895255 : Unit := ()
def PySem.W.Fast.tw8444438588346136876 : Unit := ()
def PySem.W.Fast.tw3488104847982304152 : Unit := ()
def PySem.W.Fast.tw9533410968197983045 : Unit := ()
def PySem.W.Fast.tw6917474594602048969 : Unit := ()
def PySem.W.Fast.tw9375138438710553573 : Unit := ()
def PySem.W.Fast.tw16878838921140920949 : Unit := ()
def PySem.W.Fast.tw6516614418963805131 : Unit := ()
def PySem.W.Fast.tw10065555271850612462 : Unit := ()
def PySem.W.Fast.tw18161125512299689461 : Unit := ()
def PySem.W.Fast.tw11561817502967157026 : Unit := ()
def PySem.W.Fast.tw16862160995400047762 : Unit := ()
def PySem.W.Fast.tw18179662557508999650 : Unit := ()
def PySem.W.Fast.tw11613326991195585713 : Unit := ()
def PySem.W.Fast.tw17730797411809098959 : Unit := ()
def PySem.W.Fast.tw7163085732673408373 : Unit := ()
def PySem.W.Fast.tw10656190922808114534 : Unit := ()
def PySem.W.Fast.tw7949020822562338756 : Unit := ()
def PySem.W.Fast.tw13359400615968963819 : Unit := ()
def PySem.W.Fast.tw794961437402666271 : Unit := ()
def PySem.W.Fast.tw1836715789844171142 : Unit := ()
def PySem.W.Fast.tw14575594221536765191 : Unit := ()
def PySem.W.Fast.tw9728903155605615458 : Unit := ()
def PySem.W.Fast.tw7657277448544383453 : Unit := ()
def PySem.W.Fast.tw1541191944924433058 : Unit := ()
def PySem.W.Fast.tw14848791898767848583 : Unit := ()
def PySem.W.Fast.tw6606155863259377768 : Unit := ()
def PySem.W.Fast.tw1188418121333522122 : Unit := ()
def PySem.W.Fast.tw10859694012511845412 : Unit := ()
def PySem.W.Fast.tw18354138966169719866 : Unit := ()
def PySem.W.Fast.tw13156013412517530363 : Unit := ()
def PySem.W.Fast.tw8970629199451628760 : Unit := ()
def PySem.W.Fast.tw15007264579581591406 : Unit := ()
def PySem.W.Fast.tw14048319254571180213 : Unit := ()
def PySem.W.Fast.tw11440025323918422874 : Unit := ()
def PySem.W.Fast.tw8055817172374038017 : Unit := ()
def PySem.W.Fast.tw17121089294861300099 : Unit := ()
def PySem.W.Fast.tw12007045676524120335 : Unit := ()
def PySem.W.Fast.tw4898513062517066829 : Unit := ()
def PySem.W.Fast.tw9189379385078935924 : Unit := ()
def PySem.W.Fast.tw14996971689651908341 : Unit := ()
def PySem.W.Fast.tw5782339130924523961 : Unit := ()
def PySem.W.Fast.tw7199281939563756485 : Unit := ()
def PySem.W.Fast.tw17151596363015347430 : Unit := ()
def PySem.W.Fast.tw217219150376413761 : Unit := ()
def PySem.W.Fast.tw12358459238508935445 : Unit := ()
def PySem.W.Fast.tw10685850877794894951 : Unit := ()
def PySem.W.Fast.tw12413959500262003455 : Unit := ()
def PySem.W.Fast.tw7007465382345405291 : Unit := ()
def PySem.W.Fast.tw7247438708829772739 : Unit := ()
def PySem.W.Fast.tw11789177372342003687 : Unit := ()
def PySem.W.Fast.tw203391955994046387 : Unit := ()
def PySem.W.Fast.tw14288219671139016743 : Unit := ()
def PySem.W.Fast.tw9702623535581194338 : Unit := ()
def PySem.W.Fast.tw7546374120943360040 : Unit := ()
def PySem.W.Fast.tw7545172359751746000 : Unit := ()
def PySem.W.Fast.tw11328967274772969509 : Unit := ()
def PySem.W.Fast.tw15881189446141567828 : Unit := ()
def PySem.W.Fast.tw14048523171405890142 : Unit := ()
def PySem.W.Fast.tw12079900436100052322 : Unit := ()
def PySem.W.Fast.tw223475863087150329 : Unit := ()
def PySem.W.Fast.tw9256918686228700333 : Unit := ()
def PySem.W.Fast.tw12840474710617527500 : Unit := ()
def PySem.W.Fast.tw6481224296008696993 : Unit := ()
def PySem.W.Fast.tw7809035418616064830 : Unit := ()
def PySem.W.Fast.tw1649429500712560636 : Unit := ()
def PySem.W.Fast.tw10569930170628335861 : Unit := ()
def PySem.W.Fast.tw11100211363230358690 : Unit := ()
def PySem.W.Fast.tw3595494212588869655 : Unit := ()
def PySem.W.Fast.tw12817905867077071164 : Unit := ()
def PySem.W.Fast.tw12422963195379035958 : Unit := ()
def PySem.W.Fast.tw2884283551033819897 : Unit := ()
def PySem.W.Fast.tw14080433599356154046 : Unit := ()
def PySem.W.Fast.tw13520698529778071585 : Unit := ()
def PySem.W.Fast.tw10171446647036500796 : Unit := ()
def PySem.W.Fast.tw18388761842366937972 : Unit := ()
def PySem.W.Fast.tw13338740790763832359 : Unit := ()
def PySem.W.Fast.tw12081448532359516628 : Unit := ()
def PySem.W.Fast.tw422965442235532223 : Unit := ()
def PySem.W.Fast.tw18381349367591253813 : Unit := ()
def PySem.W.Fast.tw14453552970893769169 : Unit := ()
def PySem.W.Fast.tw16939173157390012943 : Unit := ()
def PySem.W.Fast.tw331497335620275221 : Unit := ()
def PySem.W.Fast.tw9563769593311564465 : Unit := ()
def PySem.W.Fast.tw1098147578966324594 : Unit := ()
def PySem.W.Fast.tw9068153623705546078 : Unit := ()
def PySem.W.Fast.tw1631024345815465221 : Unit := ()
def PySem.W.Fast.tw14137069640054158474 : Unit := ()
def PySem.W.Fast.tw8134924439113834602 : Unit := ()
def PySem.W.Fast.tw17434586496110618719 : Unit := ()
def PySem.W.Fast.tw11743299818594652578 : Unit := ()
def PySem.W.Fast.tw9495542474085391185 : Unit := ()
def PySem.W.Fast.tw11534245449092635688 : Unit := ()
def PySem.W.Fast.tw14866915318010570486 : Unit := ()
def PySem.W.Fast.tw5480056260360562204 : Unit := ()
def PySem.W.Fast.tw11303974230889179423 : Unit := ()
def PySem.W.Fast.tw3429680160583113632 : Unit := ()
def PySem.W.Fast.tw7097605592904741963 : Unit := ()
def PySem.W.Fast.tw1728228462666690627 : Unit := ()
def PySem.W.Fast.tw15647713576866303161 : Unit := ()
def PySem.W.Fast.tw1343856347581052669 : Unit := ()
def PySem.W.Fast.tw4162467750442600104 : Unit := ()
def PySem.W.Fast.tw5283951547595978405 : Unit := ()
def PySem.W.Fast.tw17641640709494490316 : Unit := ()
def PySem.W.Fast.tw1966138813057852917 : Unit := ()
def PySem.W.Fast.tw5242088718504405645 : Unit := ()
def PySem.W.Fast.tw9108034955409910084 : Unit := ()
def PySem.W.Fast.tw8016162434934276533 : Unit := ()
def PySem.W.Fast.tw17447583869012917141 : Unit := ()
def PySem.W.Fast.tw583321881213021439 : Unit := ()
def PySem.W.Fast.tw15210747101008390498 : Unit := ()
def PySem.W.Fast.tw15617662266102868871 : Unit := ()
def PySem.W.Fast.tw12022886447632765285 : Unit := ()
def PySem.W.Fast.tw292634579644613104 : Unit := ()
def PySem.W.Fast.tw1654926518578429590 : Unit := ()
def PySem.W.Fast.tw15967708096002315081 : Unit := ()
def PySem.W.Fast.tw7845912959674477885 : Unit := ()
def PySem.W.Fast.tw3523608609735287991 : Unit := ()
def PySem.W.Fast.tw5376237259264866825 : Unit := ()
def PySem.W.Fast.tw7855995477726753733 : Unit := ()
def PySem.W.Fast.tw8237284598292569985 : Unit := ()
def PySem.W.Fast.tw18116405330884476836 : Unit := ()
def PySem.W.Fast.tw6420831781858201718 : Unit := ()
def PySem.W.Fast.tw4248665122314046929 : Unit := ()
def PySem.W.Fast.tw1463519209832737888 : Unit := ()
def PySem.W.Fast.tw358993225345761945 : Unit := ()
def PySem.W.Fast.tw6743410784293641027 : Unit := ()
def PySem.W.Fast.tw3281748886030201813 : Unit := ()
def PySem.W.Fast.tw16108424772421696840 : Unit := ()
def PySem.W.Fast.tw4511501483636972224 : Unit := ()
def PySem.W.Fast.tw18119512935599433275 : Unit := ()
def PySem.W.Fast.tw6436046247363597624 : Unit := ()
def PySem.W.Fast.tw13904897993448124348 : Unit := ()
def PySem.W.Fast.tw17206310827708480081 : Unit := ()
def PySem.W.Fast.tw12714431215770003483 : Unit := ()
def PySem.W.Fast.tw10353308844161579296 : Unit := ()
def PySem.W.Fast.tw5131833361766451222 : Unit := ()
def PySem.W.Fast.tw10134021096265184312 : Unit := ()
def PySem.W.Fast.tw14236307433665001272 : Unit := ()
def PySem.W.Fast.tw1435306806112300130 : Unit := ()
def PySem.W.Fast.tw10728954006306549820 : Unit := ()
def PySem.W.Fast.tw15971012561204668862 : Unit := ()
def PySem.W.Fast.tw11910575066285394882 : Unit := ()
def PySem.W.Fast.tw9265175953905319253 : Unit := ()
def PySem.W.Fast.tw15502170438212955054 : Unit := ()
def PySem.W.Fast.tw17272452044769287359 : Unit := ()
def PySem.W.Fast.tw2319201688610393744 : Unit := ()
def PySem.W.Fast.tw7535796241809544806 : Unit := ()
def PySem.W.Fast.tw4677660588900540077 : Unit := ()
def PySem.W.Fast.tw6941561387857154461 : Unit := ()
def PySem.W.Fast.tw15921241716073937288 : Unit := ()
def PySem.W.Fast.tw17213186840736383636 : Unit := ()
def PySem.W.Fast.tw943035881003524436 : Unit := ()
def PySem.W.Fast.tw6028676725692374920 : Unit := ()
def PySem.W.Fast.tw6595688758706819274 : Unit := ()
def PySem.W.Fast.tw4306052171132462644 : Unit := ()
def PySem.W.Fast.tw8651611653506798277 : Unit := ()
def PySem.W.Fast.tw453467919541763463 : Unit := ()
def PySem.W.Fast.tw8068373706974948675 : Unit := ()
def PySem.W.Fast.tw11640120246793672104 : Unit := ()
def PySem.W.Fast.tw93890084348464077 : Unit := ()
def PySem.W.Fast.tw13253548704848799122 : Unit := ()
def PySem.W.Fast.tw11446169721337445004 : Unit := ()
def PySem.W.Fast.tw14444126456071867411 : Unit := ()
def PySem.W.Fast.tw649421268340116377 : Unit := ()
def PySem.W.Fast.tw14033578636371423572 : Unit := ()
def PySem.W.Fast.tw2855415534137042852 : Unit := ()
def PySem.W.Fast.tw11075327207132423822 : Unit := ()
def PySem.W.Fast.tw4404801589021705290 : Unit := ()
def PySem.W.Fast.tw6932339666425290716 : Unit := ()
def PySem.W.Fast.tw527085182494267434 : Unit := ()
def PySem.W.Fast.tw1900512740355642600 : Unit := ()
def PySem.W.Fast.tw10947975232184159819 : Unit := ()
def PySem.W.Fast.tw17161542523378219905 : Unit := ()
def PySem.W.Fast.tw16314928097099999348 : Unit := ()
def PySem.W.Fast.tw17486669811146959906 : Unit := ()
def PySem.W.Fast.tw1609238499617896626 : Unit := ()
def PySem.W.Fast.tw4990942517572939146 : Unit := ()
def PySem.W.Fast.tw2804059004541742852 : Unit := ()
def PySem.W.Fast.tw12579224934470462916 : Unit := ()
def PySem.W.Fast.tw15356324155352230505 : Unit := ()
def PySem.W.Fast.tw7295487804248731571 : Unit := ()
def PySem.W.Fast.tw2607317496444831557 : Unit := ()
def PySem.W.Fast.tw16321021407598948199 : Unit := ()
def PySem.W.Fast.tw13633814082622415869 : Unit := ()
def PySem.W.Fast.tw16113769643119857712 : Unit := ()
def PySem.W.Fast.tw16752171487121323305 : Unit := ()
def PySem.W.Fast.tw13759632891248933658 : Unit := ()
def PySem.W.Fast.tw15945786564314817775 : Unit := ()
def PySem.W.Fast.tw5857460906494848424 : Unit := ()
def PySem.W.Fast.tw15980416496584403899 : Unit := ()
def PySem.W.Fast.tw7016864113258944065 : Unit := ()
def PySem.W.Fast.tw15232454271443722040 : Unit := ()
def PySem.W.Fast.tw16540674354870860002 : Unit := ()
def PySem.W.Fast.tw3781091679164109425 : Unit := ()
def PySem.W.Fast.tw7948407466408039359 : Unit := ()
def PySem.W.Fast.tw11092833026798110183 : Unit := ()
def PySem.W.Fast.tw10376282554715941067 : Unit := ()
def PySem.W.Fast.tw6292206624240590280 : Unit := ()
def PySem.W.Fast.tw4441866051345222350 : Unit := ()
def PySem.W.Fast.tw9642815202830608848 : Unit := ()
def PySem.W.Fast.tw15615400748841034985 : Unit := ()
def PySem.W.Fast.tw5546873659994355134 : Unit := ()
def PySem.W.Fast.tw4249330918873899991 : Unit := ()
def PySem.W.Fast.tw6287035474748065816 : Unit := ()
def PySem.W.Fast.tw8368891028582782131 : Unit := ()
def PySem.W.Fast.tw13803428012540938300 : Unit := ()
def PySem.W.Fast.tw4477852746997550564 : Unit := ()
def PySem.W.Fast.tw12675312922019726906 : Unit := ()
def PySem.W.Fast.tw11368495504145433410 : Unit := ()
def PySem.W.Fast.tw14149297260354757550 : Unit := ()
def PySem.W.Fast.tw1387742127995790913 : Unit := ()
def PySem.W.Fast.tw4035899979039941318 : Unit := ()
def PySem.W.Fast.tw11102675015868492913 : Unit := ()
def PySem.W.Fast.tw2169497950494533603 : Unit := ()
def PySem.W.Fast.tw14687234559262886755 : Unit := ()
def PySem.W.Fast.tw7371258781598811881 : Unit := ()
def PySem.W.Fast.tw3527569270820486289 : Unit := ()
def PySem.W.Fast.tw16334354838702012797 : Unit := ()
def PySem.W.Fast.tw16019771686271190124 : Unit := ()
def PySem.W.Fast.tw3449241399228625338 : Unit := ()
def PySem.W.Fast.tw17281543414634386881 : Unit := ()
def PySem.W.Fast.tw3229162080474970278 : Unit := ()
def PySem.W.Fast.tw3024323153019128850 : Unit := ()
def PySem.W.Fast.tw5977661742696384259 : Unit := ()
def PySem.W.Fast.tw17185094526740511380 : Unit := ()
def PySem.W.Fast.tw2636598643295180168 : Unit := ()
def PySem.W.Fast.tw8098747423007985708 : Unit := ()
def PySem.W.Fast.tw11242489691084086403 : Unit := ()
def PySem.W.Fast.tw14762075892857240460 : Unit := ()
def PySem.W.Fast.tw5871630299795783743 : Unit := ()
def PySem.W.Fast.tw378465670321679094 : Unit := ()
def PySem.W.Fast.tw2041916422563742132 : Unit := ()
def PySem.W.Fast.tw16540022290370381197 : Unit := ()
def PySem.W.Fast.tw14586465189044345557 : Unit := ()
def PySem.W.Fast.tw13229785782163613120 : Unit := ()
namespace My
open PySem PySem.Spec PyProof.Rows L2
theorem all_mk {P : Program} {w : World} {K : PySem.W.Frag} {h : Heap} {mg : Str → Option Value} {fa : Addr} (X : K.In h) (G : h.Ns mainGlobals mg) (hfa : mg "answers" = some (.ref fa))
    {C : Addr}
    {CR : Addr}
    {CN : Addr}
    {t_SPACE : Tok}
    {t_LINE_END : Tok}
    {t_DIGIT_ZERO : Tok}
    {t_DIGIT_NINE : Tok}
    {t_MOST_DIGITS : Tok}
    {t_NUMBERS_BELOW : Tok}
    {t_SIGN_WEIGHT : Tok}
    {t_REFUSED : Tok}
    {t_PLACES : Tok}
    {t_PAIRS : Tok}
    {t_WORDS_BELOW : Tok}
    {t_LONGEST_TEXT : Tok}
    {t_LONGEST_PIECE : Tok}
    {t_TAPE_SIGNS_BELOW : Tok}
    {t_LONGEST_TAPE : Tok}
    {t_BEGIN : Tok}
    {t_WORDS : Tok}
    {t_ORDERS : Tok}
    {t_TAPE : Tok}
    {t_START : Tok}
    {t_SHORT_WIDTH : Tok}
    {t_LONG_WIDTH : Tok}
    {t_ACCUMULATOR_WIDTH : Tok}
    {t_MOST_TAKEN : Tok}
    {t_LOWER_WIDTH : Tok}
    {t_MOST_STEPS : Tok}
    {t_MOST_UNTAKEN : Tok}
    {t_ALL_DONE : Tok}
    {t_STOPPED : Tok}
    {t_NO_SIGN : Tok}
    {t_NO_ORDER : Tok}
    {t_TOO_MUCH_PRINTED : Tok}
    {t_RUN : Tok}
    {t_TAKE : Tok}
    {t_LOOK : Tok}
    {t_REGISTERS : Tok}
    {t_SIGNS : Tok}
    {t_SHORT_ENDING : Tok}
    {t_LONG_ENDING : Tok}
    {fProg : Addr} {od_fProg an_fProg : Option Addr} {sl_fProg : Array (Option Value)} {oc_fProg kV_fProg dc_fProg pm_fProg cd_fProg ct_fProg : Value}
    {fSplit : Addr} {od_fSplit an_fSplit : Option Addr} {sl_fSplit : Array (Option Value)} {oc_fSplit kV_fSplit dc_fSplit pm_fSplit cd_fSplit ct_fSplit : Value}
    {fOrd : Addr} {od_fOrd an_fOrd : Option Addr} {sl_fOrd : Array (Option Value)} {oc_fOrd kV_fOrd dc_fOrd pm_fOrd cd_fOrd ct_fOrd : Value}
    {fSign : Addr} {od_fSign an_fSign : Option Addr} {sl_fSign : Array (Option Value)} {oc_fSign kV_fSign dc_fSign pm_fSign cd_fSign ct_fSign : Value}
    {fNum : Addr} {od_fNum an_fNum : Option Addr} {sl_fNum : Array (Option Value)} {oc_fNum kV_fNum dc_fNum pm_fNum cd_fNum ct_fNum : Value}
    {fBit : Addr} {od_fBit an_fBit : Option Addr} {sl_fBit : Array (Option Value)} {oc_fBit kV_fBit dc_fBit pm_fBit cd_fBit ct_fBit : Value}
    {fInit : Addr} {od_fInit an_fInit : Option Addr} {sl_fInit : Array (Option Value)} {oc_fInit kV_fInit dc_fInit pm_fInit cd_fInit ct_fInit : Value}
    {fBegin : Addr} {od_fBegin an_fBegin : Option Addr} {sl_fBegin : Array (Option Value)} {oc_fBegin kV_fBegin dc_fBegin pm_fBegin cd_fBegin ct_fBegin : Value}
    {fPW : Addr} {od_fPW an_fPW : Option Addr} {sl_fPW : Array (Option Value)} {oc_fPW kV_fPW dc_fPW pm_fPW cd_fPW ct_fPW : Value}
    {fPO : Addr} {od_fPO an_fPO : Option Addr} {sl_fPO : Array (Option Value)} {oc_fPO kV_fPO dc_fPO pm_fPO cd_fPO ct_fPO : Value}
    {fPS : Addr} {od_fPS an_fPS : Option Addr} {sl_fPS : Array (Option Value)} {oc_fPS kV_fPS dc_fPS pm_fPS cd_fPS ct_fPS : Value}
    {fLT : Addr} {od_fLT an_fLT : Option Addr} {sl_fLT : Array (Option Value)} {oc_fLT kV_fLT dc_fLT pm_fLT cd_fLT ct_fLT : Value}
    {fSA : Addr} {od_fSA an_fSA : Option Addr} {sl_fSA : Array (Option Value)} {oc_fSA kV_fSA dc_fSA pm_fSA cd_fSA ct_fSA : Value}
    {fHave : Addr} {od_fHave an_fHave : Option Addr} {sl_fHave : Array (Option Value)} {oc_fHave kV_fHave dc_fHave pm_fHave cd_fHave ct_fHave : Value}
    {fBelow : Addr} {od_fBelow an_fBelow : Option Addr} {sl_fBelow : Array (Option Value)} {oc_fBelow kV_fBelow dc_fBelow pm_fBelow cd_fBelow ct_fBelow : Value}
    {fRI : Addr} {od_fRI an_fRI : Option Addr} {sl_fRI : Array (Option Value)} {oc_fRI kV_fRI dc_fRI pm_fRI cd_fRI ct_fRI : Value}
    {fMore : Addr} {od_fMore an_fMore : Option Addr} {sl_fMore : Array (Option Value)} {oc_fMore kV_fMore dc_fMore pm_fMore cd_fMore ct_fMore : Value}
    {fNext : Addr} {od_fNext an_fNext : Option Addr} {sl_fNext : Array (Option Value)} {oc_fNext kV_fNext dc_fNext pm_fNext cd_fNext ct_fNext : Value}
    {fRow : Addr} {od_fRow an_fRow : Option Addr} {sl_fRow : Array (Option Value)} {oc_fRow kV_fRow dc_fRow pm_fRow cd_fRow ct_fRow : Value}
    {fTop : Addr} {od_fTop an_fTop : Option Addr} {sl_fTop : Array (Option Value)} {oc_fTop kV_fTop dc_fTop pm_fTop cd_fTop ct_fTop : Value}
    {fOf : Addr} {od_fOf an_fOf : Option Addr} {sl_fOf : Array (Option Value)} {oc_fOf kV_fOf dc_fOf pm_fOf cd_fOf ct_fOf : Value}
    {fCall : Addr} {od_fCall an_fCall : Option Addr} {sl_fCall : Array (Option Value)} {oc_fCall kV_fCall dc_fCall pm_fCall cd_fCall ct_fCall : Value}
    {fAW : Addr} {od_fAW an_fAW : Option Addr} {sl_fAW : Array (Option Value)} {oc_fAW kV_fAW dc_fAW pm_fAW cd_fAW ct_fAW : Value}
    {fAO : Addr} {od_fAO an_fAO : Option Addr} {sl_fAO : Array (Option Value)} {oc_fAO kV_fAO dc_fAO pm_fAO cd_fAO ct_fAO : Value}
    {fAT : Addr} {od_fAT an_fAT : Option Addr} {sl_fAT : Array (Option Value)} {oc_fAT kV_fAT dc_fAT pm_fAT cd_fAT ct_fAT : Value}
    {fBits : Addr} {od_fBits an_fBits : Option Addr} {sl_fBits : Array (Option Value)} {oc_fBits kV_fBits dc_fBits pm_fBits cd_fBits ct_fBits : Value}
    {fWS : Addr} {od_fWS an_fWS : Option Addr} {sl_fWS : Array (Option Value)} {oc_fWS kV_fWS dc_fWS pm_fWS cd_fWS ct_fWS : Value}
    {fLW : Addr} {od_fLW an_fLW : Option Addr} {sl_fLW : Array (Option Value)} {oc_fLW kV_fLW dc_fLW pm_fLW cd_fLW ct_fLW : Value}
    {fPL : Addr} {od_fPL an_fPL : Option Addr} {sl_fPL : Array (Option Value)} {oc_fPL kV_fPL dc_fPL pm_fPL cd_fPL ct_fPL : Value}
    {fTk : Addr} {od_fTk an_fTk : Option Addr} {sl_fTk : Array (Option Value)} {oc_fTk kV_fTk dc_fTk pm_fTk cd_fTk ct_fTk : Value}
    {fLk : Addr} {od_fLk an_fLk : Option Addr} {sl_fLk : Array (Option Value)} {oc_fLk kV_fLk dc_fLk pm_fLk cd_fLk ct_fLk : Value}
    {fRg : Addr} {od_fRg an_fRg : Option Addr} {sl_fRg : Array (Option Value)} {oc_fRg kV_fRg dc_fRg pm_fRg cd_fRg ct_fRg : Value}
    {fPlc : Addr} {od_fPlc an_fPlc : Option Addr} {sl_fPlc : Array (Option Value)} {oc_fPlc kV_fPlc dc_fPlc pm_fPlc cd_fPlc ct_fPlc : Value}
    {fIsl : Addr} {od_fIsl an_fIsl : Option Addr} {sl_fIsl : Array (Option Value)} {oc_fIsl kV_fIsl dc_fIsl pm_fIsl cd_fIsl ct_fIsl : Value}
    {fNum2 : Addr} {od_fNum2 an_fNum2 : Option Addr} {sl_fNum2 : Array (Option Value)} {oc_fNum2 kV_fNum2 dc_fNum2 pm_fNum2 cd_fNum2 ct_fNum2 : Value}
    {fPut : Addr} {od_fPut an_fPut : Option Addr} {sl_fPut : Array (Option Value)} {oc_fPut kV_fPut dc_fPut pm_fPut cd_fPut ct_fPut : Value}
    {fUp : Addr} {od_fUp an_fUp : Option Addr} {sl_fUp : Array (Option Value)} {oc_fUp kV_fUp dc_fUp pm_fUp cd_fUp ct_fUp : Value}
    {fAcc : Addr} {od_fAcc an_fAcc : Option Addr} {sl_fAcc : Array (Option Value)} {oc_fAcc kV_fAcc dc_fAcc pm_fAcc cd_fAcc ct_fAcc : Value}
    {fShp : Addr} {od_fShp an_fShp : Option Addr} {sl_fShp : Array (Option Value)} {oc_fShp kV_fShp dc_fShp pm_fShp cd_fShp ct_fShp : Value}
    {dA : Addr} {od_dA an_dA : Option Addr} {sl_dA : Array (Option Value)} {oc_dA kV_dA dc_dA pm_dA cd_dA ct_dA : Value}
    {dS : Addr} {od_dS an_dS : Option Addr} {sl_dS : Array (Option Value)} {oc_dS kV_dS dc_dS pm_dS cd_dS ct_dS : Value}
    {dH : Addr} {od_dH an_dH : Option Addr} {sl_dH : Array (Option Value)} {oc_dH kV_dH dc_dH pm_dH cd_dH ct_dH : Value}
    {dV : Addr} {od_dV an_dV : Option Addr} {sl_dV : Array (Option Value)} {oc_dV kV_dV dc_dV pm_dV cd_dV ct_dV : Value}
    {dN : Addr} {od_dN an_dN : Option Addr} {sl_dN : Array (Option Value)} {oc_dN kV_dN dc_dN pm_dN cd_dN ct_dN : Value}
    {dC : Addr} {od_dC an_dC : Option Addr} {sl_dC : Array (Option Value)} {oc_dC kV_dC dc_dC pm_dC cd_dC ct_dC : Value}
    {dT : Addr} {od_dT an_dT : Option Addr} {sl_dT : Array (Option Value)} {oc_dT kV_dT dc_dT pm_dT cd_dT ct_dT : Value}
    {dU : Addr} {od_dU an_dU : Option Addr} {sl_dU : Array (Option Value)} {oc_dU kV_dU dc_dU pm_dU cd_dU ct_dU : Value}
    {dR : Addr} {od_dR an_dR : Option Addr} {sl_dR : Array (Option Value)} {oc_dR kV_dR dc_dR pm_dR cd_dR ct_dR : Value}
    {dL : Addr} {od_dL an_dL : Option Addr} {sl_dL : Array (Option Value)} {oc_dL kV_dL dc_dL pm_dL cd_dL ct_dL : Value}
    {dE : Addr} {od_dE an_dE : Option Addr} {sl_dE : Array (Option Value)} {oc_dE kV_dE dc_dE pm_dE cd_dE ct_dE : Value}
    {dG : Addr} {od_dG an_dG : Option Addr} {sl_dG : Array (Option Value)} {oc_dG kV_dG dc_dG pm_dG cd_dG ct_dG : Value}
    {dI : Addr} {od_dI an_dI : Option Addr} {sl_dI : Array (Option Value)} {oc_dI kV_dI dc_dI pm_dI cd_dI ct_dI : Value}
    {dO : Addr} {od_dO an_dO : Option Addr} {sl_dO : Array (Option Value)} {oc_dO kV_dO dc_dO pm_dO cd_dO ct_dO : Value}
    {dF : Addr} {od_dF an_dF : Option Addr} {sl_dF : Array (Option Value)} {oc_dF kV_dF dc_dF pm_dF cd_dF ct_dF : Value}
    {dY : Addr} {od_dY an_dY : Option Addr} {sl_dY : Array (Option Value)} {oc_dY kV_dY dc_dY pm_dY cd_dY ct_dY : Value}
    {dX : Addr} {od_dX an_dX : Option Addr} {sl_dX : Array (Option Value)} {oc_dX kV_dX dc_dX pm_dX cd_dX ct_dX : Value}
    {dZ : Addr} {od_dZ an_dZ : Option Addr} {sl_dZ : Array (Option Value)} {oc_dZ kV_dZ dc_dZ pm_dZ cd_dZ ct_dZ : Value}
    {fRun : Addr} {od_fRun an_fRun : Option Addr} {sl_fRun : Array (Option Value)} {oc_fRun kV_fRun dc_fRun pm_fRun cd_fRun ct_fRun : Value}
    {fHin : Addr} {od_fHin an_fHin : Option Addr} {sl_fHin : Array (Option Value)} {oc_fHin kV_fHin dc_fHin pm_fHin cd_fHin ct_fHin : Value}
    {fAL : Addr} {od_fAL an_fAL : Option Addr} {sl_fAL : Array (Option Value)} {oc_fAL kV_fAL dc_fAL pm_fAL cd_fAL ct_fAL : Value}
    {dD : Addr} {ep_dD : Nat}
    {h0_dD : Int} {t0_dD : Tok}
    {h1_dD : Int} {t1_dD : Tok}
    {h2_dD : Int} {t2_dD : Tok}
    {h3_dD : Int} {t3_dD : Tok}
    {h4_dD : Int} {t4_dD : Tok}
    {h5_dD : Int} {t5_dD : Tok}
    {h6_dD : Int} {t6_dD : Tok}
    {h7_dD : Int} {t7_dD : Tok}
    {h8_dD : Int} {t8_dD : Tok}
    {h9_dD : Int} {t9_dD : Tok}
    {h10_dD : Int} {t10_dD : Tok}
    {h11_dD : Int} {t11_dD : Tok}
    {h12_dD : Int} {t12_dD : Tok}
    {h13_dD : Int} {t13_dD : Tok}
    {h14_dD : Int} {t14_dD : Tok}
    {h15_dD : Int} {t15_dD : Tok}
    {h16_dD : Int} {t16_dD : Tok}
    {h17_dD : Int} {t17_dD : Tok}
    (aC : PySem.W.nsIn K mainGlobals "Machine" = some (some (.ref C)))
    (pgC : PySem.W.plainGet K C Str.empty = true)
    (hdC : PySem.W.hasDictIn K C = true)
    (poC : PySem.W.plainOver K C = true)
    (saC : PySem.W.findIn K (.ref C) "__setattr__" = some (some (.builtin "object.__setattr__")))
    (mkC : PySem.W.makesIn K C = true)
    (kcC : PySem.W.keepIn K (.ref C) = true)
    (nC_short_words : PySem.W.findIn K (.ref C) "short_words" = some none)
    (nC_bits_between : PySem.W.findIn K (.ref C) "bits_between" = some none)
    (nC_accumulator : PySem.W.findIn K (.ref C) "accumulator" = some none)
    (nC_multiplier : PySem.W.findIn K (.ref C) "multiplier" = some none)
    (nC_next_place : PySem.W.findIn K (.ref C) "next_place" = some none)
    (nC_tape : PySem.W.findIn K (.ref C) "tape" = some none)
    (nC_printed : PySem.W.findIn K (.ref C) "printed" = some none)
    (nC_last_printed : PySem.W.findIn K (.ref C) "last_printed" = some none)
    (nC_stopped : PySem.W.findIn K (.ref C) "stopped" = some none)
    (aCR : PySem.W.nsIn K mainGlobals "Reader" = some (some (.ref CR)))
    (pgCR : PySem.W.plainGet K CR Str.empty = true)
    (hdCR : PySem.W.hasDictIn K CR = true)
    (poCR : PySem.W.plainOver K CR = true)
    (saCR : PySem.W.findIn K (.ref CR) "__setattr__" = some (some (.builtin "object.__setattr__")))
    (mkCR : PySem.W.makesIn K CR = true)
    (kcCR : PySem.W.keepIn K (.ref CR) = true)
    (nCR_numbers : PySem.W.findIn K (.ref CR) "numbers" = some none)
    (nCR_position : PySem.W.findIn K (.ref CR) "position" = some none)
    (aCN : PySem.W.nsIn K mainGlobals "NoProgram" = some (some (.ref CN)))
    (xCN : PySem.W.excIn K CN bmE "Exception.__new__" = true)
    (g_SPACE : PySem.W.nsIn K mainGlobals "SPACE" = some (some (.int (32) t_SPACE)))
    (g_LINE_END : PySem.W.nsIn K mainGlobals "LINE_END" = some (some (.int (10) t_LINE_END)))
    (g_DIGIT_ZERO : PySem.W.nsIn K mainGlobals "DIGIT_ZERO" = some (some (.int (48) t_DIGIT_ZERO)))
    (g_DIGIT_NINE : PySem.W.nsIn K mainGlobals "DIGIT_NINE" = some (some (.int (57) t_DIGIT_NINE)))
    (g_MOST_DIGITS : PySem.W.nsIn K mainGlobals "MOST_DIGITS" = some (some (.int (4) t_MOST_DIGITS)))
    (g_NUMBERS_BELOW : PySem.W.nsIn K mainGlobals "NUMBERS_BELOW" = some (some (.int (2048) t_NUMBERS_BELOW)))
    (g_SIGN_WEIGHT : PySem.W.nsIn K mainGlobals "SIGN_WEIGHT" = some (some (.int (4096) t_SIGN_WEIGHT)))
    (g_REFUSED : PySem.W.nsIn K mainGlobals "REFUSED" = some (some (.int (-1) t_REFUSED)))
    (g_PLACES : PySem.W.nsIn K mainGlobals "PLACES" = some (some (.int (1024) t_PLACES)))
    (g_PAIRS : PySem.W.nsIn K mainGlobals "PAIRS" = some (some (.int (512) t_PAIRS)))
    (g_WORDS_BELOW : PySem.W.nsIn K mainGlobals "WORDS_BELOW" = some (some (.int (131072) t_WORDS_BELOW)))
    (g_LONGEST_TEXT : PySem.W.nsIn K mainGlobals "LONGEST_TEXT" = some (some (.int (16384) t_LONGEST_TEXT)))
    (g_LONGEST_PIECE : PySem.W.nsIn K mainGlobals "LONGEST_PIECE" = some (some (.int (4096) t_LONGEST_PIECE)))
    (g_TAPE_SIGNS_BELOW : PySem.W.nsIn K mainGlobals "TAPE_SIGNS_BELOW" = some (some (.int (32) t_TAPE_SIGNS_BELOW)))
    (g_LONGEST_TAPE : PySem.W.nsIn K mainGlobals "LONGEST_TAPE" = some (some (.int (65536) t_LONGEST_TAPE)))
    (g_BEGIN : PySem.W.nsIn K mainGlobals "BEGIN" = some (some (.int (0) t_BEGIN)))
    (g_WORDS : PySem.W.nsIn K mainGlobals "WORDS" = some (some (.int (1) t_WORDS)))
    (g_ORDERS : PySem.W.nsIn K mainGlobals "ORDERS" = some (some (.int (2) t_ORDERS)))
    (g_TAPE : PySem.W.nsIn K mainGlobals "TAPE" = some (some (.int (3) t_TAPE)))
    (g_START : PySem.W.nsIn K mainGlobals "START" = some (some (.int (4) t_START)))
    (g_SHORT_WIDTH : PySem.W.nsIn K mainGlobals "SHORT_WIDTH" = some (some (.int (17) t_SHORT_WIDTH)))
    (g_LONG_WIDTH : PySem.W.nsIn K mainGlobals "LONG_WIDTH" = some (some (.int (35) t_LONG_WIDTH)))
    (g_ACCUMULATOR_WIDTH : PySem.W.nsIn K mainGlobals "ACCUMULATOR_WIDTH" = some (some (.int (71) t_ACCUMULATOR_WIDTH)))
    (g_MOST_TAKEN : PySem.W.nsIn K mainGlobals "MOST_TAKEN" = some (some (.int (65536) t_MOST_TAKEN)))
    (g_LOWER_WIDTH : PySem.W.nsIn K mainGlobals "LOWER_WIDTH" = some (some (.int (64) t_LOWER_WIDTH)))
    (g_MOST_STEPS : PySem.W.nsIn K mainGlobals "MOST_STEPS" = some (some (.int (1000000) t_MOST_STEPS)))
    (g_MOST_UNTAKEN : PySem.W.nsIn K mainGlobals "MOST_UNTAKEN" = some (some (.int (65536) t_MOST_UNTAKEN)))
    (g_ALL_DONE : PySem.W.nsIn K mainGlobals "ALL_DONE" = some (some (.int (0) t_ALL_DONE)))
    (g_STOPPED : PySem.W.nsIn K mainGlobals "STOPPED" = some (some (.int (1) t_STOPPED)))
    (g_NO_SIGN : PySem.W.nsIn K mainGlobals "NO_SIGN" = some (some (.int (2) t_NO_SIGN)))
    (g_NO_ORDER : PySem.W.nsIn K mainGlobals "NO_ORDER" = some (some (.int (3) t_NO_ORDER)))
    (g_TOO_MUCH_PRINTED : PySem.W.nsIn K mainGlobals "TOO_MUCH_PRINTED" = some (some (.int (4) t_TOO_MUCH_PRINTED)))
    (g_RUN : PySem.W.nsIn K mainGlobals "RUN" = some (some (.int (5) t_RUN)))
    (g_TAKE : PySem.W.nsIn K mainGlobals "TAKE" = some (some (.int (6) t_TAKE)))
    (g_LOOK : PySem.W.nsIn K mainGlobals "LOOK" = some (some (.int (7) t_LOOK)))
    (g_REGISTERS : PySem.W.nsIn K mainGlobals "REGISTERS" = some (some (.int (8) t_REGISTERS)))
    (g_SIGNS : PySem.W.nsIn K mainGlobals "SIGNS" = some (some (.str signsS t_SIGNS)))
    (g_SHORT_ENDING : PySem.W.nsIn K mainGlobals "SHORT_ENDING" = some (some (.str "F" t_SHORT_ENDING)))
    (g_LONG_ENDING : PySem.W.nsIn K mainGlobals "LONG_ENDING" = some (some (.str "D" t_LONG_ENDING)))
    (b_len : PySem.W.nsIn K mainGlobals "len" = some none)
    (b_enumerate : PySem.W.nsIn K mainGlobals "enumerate" = some none)
    (b_ord : PySem.W.nsIn K mainGlobals "ord" = some none)
    (b_max : PySem.W.nsIn K mainGlobals "max" = some none)
    (b_range : PySem.W.nsIn K mainGlobals "range" = some none)
    (a_fProg : PySem.W.nsIn K mainGlobals "program_words" = some (some (.ref fProg)))
    (l_fProg : K.lookup fProg = some ⟨oc_fProg, od_fProg, .func (PySem.W.fnOf "program_words" "program_words" (defArgs (top 18)) (defBody (top 18)) (defScope (top 18)) .none kV_fProg dc_fProg pm_fProg an_fProg cd_fProg ct_fProg), sl_fProg⟩)
    (c_fProg : PySem.W.codeIn K cd_fProg "program_words" = true)
    (k_fProg : PySem.W.keepIn K (.ref fProg) = true)
    (a_fSplit : PySem.W.nsIn K mainGlobals "split_orders" = some (some (.ref fSplit)))
    (l_fSplit : K.lookup fSplit = some ⟨oc_fSplit, od_fSplit, .func (PySem.W.fnOf "split_orders" "split_orders" (defArgs (top 19)) (defBody (top 19)) (defScope (top 19)) .none kV_fSplit dc_fSplit pm_fSplit an_fSplit cd_fSplit ct_fSplit), sl_fSplit⟩)
    (c_fSplit : PySem.W.codeIn K cd_fSplit "split_orders" = true)
    (k_fSplit : PySem.W.keepIn K (.ref fSplit) = true)
    (a_fOrd : PySem.W.nsIn K mainGlobals "order_word" = some (some (.ref fOrd)))
    (l_fOrd : K.lookup fOrd = some ⟨oc_fOrd, od_fOrd, .func (PySem.W.fnOf "order_word" "order_word" (defArgs (top 20)) (defBody (top 20)) (defScope (top 20)) .none kV_fOrd dc_fOrd pm_fOrd an_fOrd cd_fOrd ct_fOrd), sl_fOrd⟩)
    (c_fOrd : PySem.W.codeIn K cd_fOrd "order_word" = true)
    (k_fOrd : PySem.W.keepIn K (.ref fOrd) = true)
    (a_fSign : PySem.W.nsIn K mainGlobals "sign_number" = some (some (.ref fSign)))
    (l_fSign : K.lookup fSign = some ⟨oc_fSign, od_fSign, .func (PySem.W.fnOf "sign_number" "sign_number" (defArgs (top 21)) (defBody (top 21)) (defScope (top 21)) .none kV_fSign dc_fSign pm_fSign an_fSign cd_fSign ct_fSign), sl_fSign⟩)
    (c_fSign : PySem.W.codeIn K cd_fSign "sign_number" = true)
    (k_fSign : PySem.W.keepIn K (.ref fSign) = true)
    (a_fNum : PySem.W.nsIn K mainGlobals "written_number" = some (some (.ref fNum)))
    (l_fNum : K.lookup fNum = some ⟨oc_fNum, od_fNum, .func (PySem.W.fnOf "written_number" "written_number" (defArgs (top 22)) (defBody (top 22)) (defScope (top 22)) .none kV_fNum dc_fNum pm_fNum an_fNum cd_fNum ct_fNum), sl_fNum⟩)
    (c_fNum : PySem.W.codeIn K cd_fNum "written_number" = true)
    (k_fNum : PySem.W.keepIn K (.ref fNum) = true)
    (a_fBit : PySem.W.nsIn K mainGlobals "long_bit" = some (some (.ref fBit)))
    (l_fBit : K.lookup fBit = some ⟨oc_fBit, od_fBit, .func (PySem.W.fnOf "long_bit" "long_bit" (defArgs (top 23)) (defBody (top 23)) (defScope (top 23)) .none kV_fBit dc_fBit pm_fBit an_fBit cd_fBit ct_fBit), sl_fBit⟩)
    (c_fBit : PySem.W.codeIn K cd_fBit "long_bit" = true)
    (k_fBit : PySem.W.keepIn K (.ref fBit) = true)
    (a_fInit : PySem.W.findIn K (.ref C) "__init__" = some (some (.ref fInit)))
    (i_fInit : PySem.W.isFn K (.ref fInit) = true)
    (l_fInit : K.lookup fInit = some ⟨oc_fInit, od_fInit, .func (PySem.W.fnOf "__init__" "Machine.__init__" (defArgs (sM 0)) (defBody (sM 0)) (defScope (sM 0)) .none kV_fInit dc_fInit pm_fInit an_fInit cd_fInit ct_fInit), sl_fInit⟩)
    (c_fInit : PySem.W.codeIn K cd_fInit "Machine.__init__" = true)
    (k_fInit : PySem.W.keepIn K (.ref fInit) = true)
    (a_fBegin : PySem.W.findIn K (.ref C) "begin" = some (some (.ref fBegin)))
    (i_fBegin : PySem.W.isFn K (.ref fBegin) = true)
    (l_fBegin : K.lookup fBegin = some ⟨oc_fBegin, od_fBegin, .func (PySem.W.fnOf "begin" "Machine.begin" (defArgs (sM 1)) (defBody (sM 1)) (defScope (sM 1)) .none kV_fBegin dc_fBegin pm_fBegin an_fBegin cd_fBegin ct_fBegin), sl_fBegin⟩)
    (c_fBegin : PySem.W.codeIn K cd_fBegin "Machine.begin" = true)
    (k_fBegin : PySem.W.keepIn K (.ref fBegin) = true)
    (a_fPW : PySem.W.findIn K (.ref C) "put_words" = some (some (.ref fPW)))
    (i_fPW : PySem.W.isFn K (.ref fPW) = true)
    (l_fPW : K.lookup fPW = some ⟨oc_fPW, od_fPW, .func (PySem.W.fnOf "put_words" "Machine.put_words" (defArgs (sM 2)) (defBody (sM 2)) (defScope (sM 2)) .none kV_fPW dc_fPW pm_fPW an_fPW cd_fPW ct_fPW), sl_fPW⟩)
    (c_fPW : PySem.W.codeIn K cd_fPW "Machine.put_words" = true)
    (k_fPW : PySem.W.keepIn K (.ref fPW) = true)
    (a_fPO : PySem.W.findIn K (.ref C) "put_orders" = some (some (.ref fPO)))
    (i_fPO : PySem.W.isFn K (.ref fPO) = true)
    (l_fPO : K.lookup fPO = some ⟨oc_fPO, od_fPO, .func (PySem.W.fnOf "put_orders" "Machine.put_orders" (defArgs (sM 3)) (defBody (sM 3)) (defScope (sM 3)) .none kV_fPO dc_fPO pm_fPO an_fPO cd_fPO ct_fPO), sl_fPO⟩)
    (c_fPO : PySem.W.codeIn K cd_fPO "Machine.put_orders" = true)
    (k_fPO : PySem.W.keepIn K (.ref fPO) = true)
    (a_fPS : PySem.W.findIn K (.ref C) "put_short_words" = some (some (.ref fPS)))
    (i_fPS : PySem.W.isFn K (.ref fPS) = true)
    (l_fPS : K.lookup fPS = some ⟨oc_fPS, od_fPS, .func (PySem.W.fnOf "put_short_words" "Machine.put_short_words" (defArgs (sM 4)) (defBody (sM 4)) (defScope (sM 4)) .none kV_fPS dc_fPS pm_fPS an_fPS cd_fPS ct_fPS), sl_fPS⟩)
    (c_fPS : PySem.W.codeIn K cd_fPS "Machine.put_short_words" = true)
    (k_fPS : PySem.W.keepIn K (.ref fPS) = true)
    (a_fLT : PySem.W.findIn K (.ref C) "lay_tape" = some (some (.ref fLT)))
    (i_fLT : PySem.W.isFn K (.ref fLT) = true)
    (l_fLT : K.lookup fLT = some ⟨oc_fLT, od_fLT, .func (PySem.W.fnOf "lay_tape" "Machine.lay_tape" (defArgs (sM 5)) (defBody (sM 5)) (defScope (sM 5)) .none kV_fLT dc_fLT pm_fLT an_fLT cd_fLT ct_fLT), sl_fLT⟩)
    (c_fLT : PySem.W.codeIn K cd_fLT "Machine.lay_tape" = true)
    (k_fLT : PySem.W.keepIn K (.ref fLT) = true)
    (a_fSA : PySem.W.findIn K (.ref C) "start_at" = some (some (.ref fSA)))
    (i_fSA : PySem.W.isFn K (.ref fSA) = true)
    (l_fSA : K.lookup fSA = some ⟨oc_fSA, od_fSA, .func (PySem.W.fnOf "start_at" "Machine.start_at" (defArgs (sM 6)) (defBody (sM 6)) (defScope (sM 6)) .none kV_fSA dc_fSA pm_fSA an_fSA cd_fSA ct_fSA), sl_fSA⟩)
    (c_fSA : PySem.W.codeIn K cd_fSA "Machine.start_at" = true)
    (k_fSA : PySem.W.keepIn K (.ref fSA) = true)
    (a_fHave : PySem.W.nsIn K mainGlobals "have_places" = some (some (.ref fHave)))
    (l_fHave : K.lookup fHave = some ⟨oc_fHave, od_fHave, .func (PySem.W.fnOf "have_places" "have_places" (defArgs (top 36)) (defBody (top 36)) (defScope (top 36)) .none kV_fHave dc_fHave pm_fHave an_fHave cd_fHave ct_fHave), sl_fHave⟩)
    (c_fHave : PySem.W.codeIn K cd_fHave "have_places" = true)
    (k_fHave : PySem.W.keepIn K (.ref fHave) = true)
    (a_fBelow : PySem.W.nsIn K mainGlobals "all_below" = some (some (.ref fBelow)))
    (l_fBelow : K.lookup fBelow = some ⟨oc_fBelow, od_fBelow, .func (PySem.W.fnOf "all_below" "all_below" (defArgs (top 37)) (defBody (top 37)) (defScope (top 37)) .none kV_fBelow dc_fBelow pm_fBelow an_fBelow cd_fBelow ct_fBelow), sl_fBelow⟩)
    (c_fBelow : PySem.W.codeIn K cd_fBelow "all_below" = true)
    (k_fBelow : PySem.W.keepIn K (.ref fBelow) = true)
    (a_fRI : PySem.W.findIn K (.ref CR) "__init__" = some (some (.ref fRI)))
    (i_fRI : PySem.W.isFn K (.ref fRI) = true)
    (l_fRI : K.lookup fRI = some ⟨oc_fRI, od_fRI, .func (PySem.W.fnOf "__init__" "Reader.__init__" (defArgs (sR 0)) (defBody (sR 0)) (defScope (sR 0)) .none kV_fRI dc_fRI pm_fRI an_fRI cd_fRI ct_fRI), sl_fRI⟩)
    (c_fRI : PySem.W.codeIn K cd_fRI "Reader.__init__" = true)
    (k_fRI : PySem.W.keepIn K (.ref fRI) = true)
    (a_fMore : PySem.W.findIn K (.ref CR) "has_more" = some (some (.ref fMore)))
    (i_fMore : PySem.W.isFn K (.ref fMore) = true)
    (l_fMore : K.lookup fMore = some ⟨oc_fMore, od_fMore, .func (PySem.W.fnOf "has_more" "Reader.has_more" (defArgs (sR 1)) (defBody (sR 1)) (defScope (sR 1)) .none kV_fMore dc_fMore pm_fMore an_fMore cd_fMore ct_fMore), sl_fMore⟩)
    (c_fMore : PySem.W.codeIn K cd_fMore "Reader.has_more" = true)
    (k_fMore : PySem.W.keepIn K (.ref fMore) = true)
    (a_fNext : PySem.W.findIn K (.ref CR) "next_number" = some (some (.ref fNext)))
    (i_fNext : PySem.W.isFn K (.ref fNext) = true)
    (l_fNext : K.lookup fNext = some ⟨oc_fNext, od_fNext, .func (PySem.W.fnOf "next_number" "Reader.next_number" (defArgs (sR 2)) (defBody (sR 2)) (defScope (sR 2)) .none kV_fNext dc_fNext pm_fNext an_fNext cd_fNext ct_fNext), sl_fNext⟩)
    (c_fNext : PySem.W.codeIn K cd_fNext "Reader.next_number" = true)
    (k_fNext : PySem.W.keepIn K (.ref fNext) = true)
    (a_fRow : PySem.W.findIn K (.ref CR) "next_row" = some (some (.ref fRow)))
    (i_fRow : PySem.W.isFn K (.ref fRow) = true)
    (l_fRow : K.lookup fRow = some ⟨oc_fRow, od_fRow, .func (PySem.W.fnOf "next_row" "Reader.next_row" (defArgs (sR 3)) (defBody (sR 3)) (defScope (sR 3)) .none kV_fRow dc_fRow pm_fRow an_fRow cd_fRow ct_fRow), sl_fRow⟩)
    (c_fRow : PySem.W.codeIn K cd_fRow "Reader.next_row" = true)
    (k_fRow : PySem.W.keepIn K (.ref fRow) = true)
    (a_fTop : PySem.W.nsIn K mainGlobals "answers" = some (some (.ref fTop)))
    (l_fTop : K.lookup fTop = some ⟨oc_fTop, od_fTop, .func (PySem.W.fnOf "answers" "answers" (defArgs (top 87)) (defBody (top 87)) (defScope (top 87)) .none kV_fTop dc_fTop pm_fTop an_fTop cd_fTop ct_fTop), sl_fTop⟩)
    (c_fTop : PySem.W.codeIn K cd_fTop "answers" = true)
    (k_fTop : PySem.W.keepIn K (.ref fTop) = true)
    (a_fOf : PySem.W.nsIn K mainGlobals "answers_of" = some (some (.ref fOf)))
    (l_fOf : K.lookup fOf = some ⟨oc_fOf, od_fOf, .func (PySem.W.fnOf "answers_of" "answers_of" (defArgs (top 88)) (defBody (top 88)) (defScope (top 88)) .none kV_fOf dc_fOf pm_fOf an_fOf cd_fOf ct_fOf), sl_fOf⟩)
    (c_fOf : PySem.W.codeIn K cd_fOf "answers_of" = true)
    (k_fOf : PySem.W.keepIn K (.ref fOf) = true)
    (a_fCall : PySem.W.nsIn K mainGlobals "answer_call" = some (some (.ref fCall)))
    (l_fCall : K.lookup fCall = some ⟨oc_fCall, od_fCall, .func (PySem.W.fnOf "answer_call" "answer_call" (defArgs (top 89)) (defBody (top 89)) (defScope (top 89)) .none kV_fCall dc_fCall pm_fCall an_fCall cd_fCall ct_fCall), sl_fCall⟩)
    (c_fCall : PySem.W.codeIn K cd_fCall "answer_call" = true)
    (k_fCall : PySem.W.keepIn K (.ref fCall) = true)
    (a_fAW : PySem.W.nsIn K mainGlobals "answer_words" = some (some (.ref fAW)))
    (l_fAW : K.lookup fAW = some ⟨oc_fAW, od_fAW, .func (PySem.W.fnOf "answer_words" "answer_words" (defArgs (top 90)) (defBody (top 90)) (defScope (top 90)) .none kV_fAW dc_fAW pm_fAW an_fAW cd_fAW ct_fAW), sl_fAW⟩)
    (c_fAW : PySem.W.codeIn K cd_fAW "answer_words" = true)
    (k_fAW : PySem.W.keepIn K (.ref fAW) = true)
    (a_fAO : PySem.W.nsIn K mainGlobals "answer_orders" = some (some (.ref fAO)))
    (l_fAO : K.lookup fAO = some ⟨oc_fAO, od_fAO, .func (PySem.W.fnOf "answer_orders" "answer_orders" (defArgs (top 91)) (defBody (top 91)) (defScope (top 91)) .none kV_fAO dc_fAO pm_fAO an_fAO cd_fAO ct_fAO), sl_fAO⟩)
    (c_fAO : PySem.W.codeIn K cd_fAO "answer_orders" = true)
    (k_fAO : PySem.W.keepIn K (.ref fAO) = true)
    (a_fAT : PySem.W.nsIn K mainGlobals "answer_tape" = some (some (.ref fAT)))
    (l_fAT : K.lookup fAT = some ⟨oc_fAT, od_fAT, .func (PySem.W.fnOf "answer_tape" "answer_tape" (defArgs (top 92)) (defBody (top 92)) (defScope (top 92)) .none kV_fAT dc_fAT pm_fAT an_fAT cd_fAT ct_fAT), sl_fAT⟩)
    (c_fAT : PySem.W.codeIn K cd_fAT "answer_tape" = true)
    (k_fAT : PySem.W.keepIn K (.ref fAT) = true)
    (a_fBits : PySem.W.nsIn K mainGlobals "bits_of" = some (some (.ref fBits)))
    (l_fBits : K.lookup fBits = some ⟨oc_fBits, od_fBits, .func (PySem.W.fnOf "bits_of" "bits_of" (defArgs (top 4)) (defBody (top 4)) (defScope (top 4)) .none kV_fBits dc_fBits pm_fBits an_fBits cd_fBits ct_fBits), sl_fBits⟩)
    (c_fBits : PySem.W.codeIn K cd_fBits "bits_of" = true)
    (k_fBits : PySem.W.keepIn K (.ref fBits) = true)
    (a_fWS : PySem.W.nsIn K mainGlobals "with_sign" = some (some (.ref fWS)))
    (l_fWS : K.lookup fWS = some ⟨oc_fWS, od_fWS, .func (PySem.W.fnOf "with_sign" "with_sign" (defArgs (top 5)) (defBody (top 5)) (defScope (top 5)) .none kV_fWS dc_fWS pm_fWS an_fWS cd_fWS ct_fWS), sl_fWS⟩)
    (c_fWS : PySem.W.codeIn K cd_fWS "with_sign" = true)
    (k_fWS : PySem.W.keepIn K (.ref fWS) = true)
    (a_fLW : PySem.W.findIn K (.ref C) "long_word" = some (some (.ref fLW)))
    (i_fLW : PySem.W.isFn K (.ref fLW) = true)
    (l_fLW : K.lookup fLW = some ⟨oc_fLW, od_fLW, .func (PySem.W.fnOf "long_word" "Machine.long_word" (defArgs (sM 7)) (defBody (sM 7)) (defScope (sM 7)) .none kV_fLW dc_fLW pm_fLW an_fLW cd_fLW ct_fLW), sl_fLW⟩)
    (c_fLW : PySem.W.codeIn K cd_fLW "Machine.long_word" = true)
    (k_fLW : PySem.W.keepIn K (.ref fLW) = true)
    (a_fPL : PySem.W.findIn K (.ref C) "put_long_word" = some (some (.ref fPL)))
    (i_fPL : PySem.W.isFn K (.ref fPL) = true)
    (l_fPL : K.lookup fPL = some ⟨oc_fPL, od_fPL, .func (PySem.W.fnOf "put_long_word" "Machine.put_long_word" (defArgs (sM 8)) (defBody (sM 8)) (defScope (sM 8)) .none kV_fPL dc_fPL pm_fPL an_fPL cd_fPL ct_fPL), sl_fPL⟩)
    (c_fPL : PySem.W.codeIn K cd_fPL "Machine.put_long_word" = true)
    (k_fPL : PySem.W.keepIn K (.ref fPL) = true)
    (a_fTk : PySem.W.findIn K (.ref C) "take" = some (some (.ref fTk)))
    (i_fTk : PySem.W.isFn K (.ref fTk) = true)
    (l_fTk : K.lookup fTk = some ⟨oc_fTk, od_fTk, .func (PySem.W.fnOf "take" "Machine.take" (defArgs (sM 9)) (defBody (sM 9)) (defScope (sM 9)) .none kV_fTk dc_fTk pm_fTk an_fTk cd_fTk ct_fTk), sl_fTk⟩)
    (c_fTk : PySem.W.codeIn K cd_fTk "Machine.take" = true)
    (k_fTk : PySem.W.keepIn K (.ref fTk) = true)
    (a_fLk : PySem.W.findIn K (.ref C) "look" = some (some (.ref fLk)))
    (i_fLk : PySem.W.isFn K (.ref fLk) = true)
    (l_fLk : K.lookup fLk = some ⟨oc_fLk, od_fLk, .func (PySem.W.fnOf "look" "Machine.look" (defArgs (sM 10)) (defBody (sM 10)) (defScope (sM 10)) .none kV_fLk dc_fLk pm_fLk an_fLk cd_fLk ct_fLk), sl_fLk⟩)
    (c_fLk : PySem.W.codeIn K cd_fLk "Machine.look" = true)
    (k_fLk : PySem.W.keepIn K (.ref fLk) = true)
    (a_fRg : PySem.W.findIn K (.ref C) "tell_registers" = some (some (.ref fRg)))
    (i_fRg : PySem.W.isFn K (.ref fRg) = true)
    (l_fRg : K.lookup fRg = some ⟨oc_fRg, od_fRg, .func (PySem.W.fnOf "tell_registers" "Machine.tell_registers" (defArgs (sM 11)) (defBody (sM 11)) (defScope (sM 11)) .none kV_fRg dc_fRg pm_fRg an_fRg cd_fRg ct_fRg), sl_fRg⟩)
    (c_fRg : PySem.W.codeIn K cd_fRg "Machine.tell_registers" = true)
    (k_fRg : PySem.W.keepIn K (.ref fRg) = true)
    (a_fPlc : PySem.W.nsIn K mainGlobals "place_of" = some (some (.ref fPlc)))
    (l_fPlc : K.lookup fPlc = some ⟨oc_fPlc, od_fPlc, .func (PySem.W.fnOf "place_of" "place_of" (defArgs (top 39)) (defBody (top 39)) (defScope (top 39)) .none kV_fPlc dc_fPlc pm_fPlc an_fPlc cd_fPlc ct_fPlc), sl_fPlc⟩)
    (c_fPlc : PySem.W.codeIn K cd_fPlc "place_of" = true)
    (k_fPlc : PySem.W.keepIn K (.ref fPlc) = true)
    (a_fIsl : PySem.W.nsIn K mainGlobals "is_long" = some (some (.ref fIsl)))
    (l_fIsl : K.lookup fIsl = some ⟨oc_fIsl, od_fIsl, .func (PySem.W.fnOf "is_long" "is_long" (defArgs (top 40)) (defBody (top 40)) (defScope (top 40)) .none kV_fIsl dc_fIsl pm_fIsl an_fIsl cd_fIsl ct_fIsl), sl_fIsl⟩)
    (c_fIsl : PySem.W.codeIn K cd_fIsl "is_long" = true)
    (k_fIsl : PySem.W.keepIn K (.ref fIsl) = true)
    (a_fNum2 : PySem.W.nsIn K mainGlobals "number_at" = some (some (.ref fNum2)))
    (l_fNum2 : K.lookup fNum2 = some ⟨oc_fNum2, od_fNum2, .func (PySem.W.fnOf "number_at" "number_at" (defArgs (top 41)) (defBody (top 41)) (defScope (top 41)) .none kV_fNum2 dc_fNum2 pm_fNum2 an_fNum2 cd_fNum2 ct_fNum2), sl_fNum2⟩)
    (c_fNum2 : PySem.W.codeIn K cd_fNum2 "number_at" = true)
    (k_fNum2 : PySem.W.keepIn K (.ref fNum2) = true)
    (a_fPut : PySem.W.nsIn K mainGlobals "put_word" = some (some (.ref fPut)))
    (l_fPut : K.lookup fPut = some ⟨oc_fPut, od_fPut, .func (PySem.W.fnOf "put_word" "put_word" (defArgs (top 42)) (defBody (top 42)) (defScope (top 42)) .none kV_fPut dc_fPut pm_fPut an_fPut cd_fPut ct_fPut), sl_fPut⟩)
    (c_fPut : PySem.W.codeIn K cd_fPut "put_word" = true)
    (k_fPut : PySem.W.keepIn K (.ref fPut) = true)
    (a_fUp : PySem.W.nsIn K mainGlobals "put_upper_end" = some (some (.ref fUp)))
    (l_fUp : K.lookup fUp = some ⟨oc_fUp, od_fUp, .func (PySem.W.fnOf "put_upper_end" "put_upper_end" (defArgs (top 43)) (defBody (top 43)) (defScope (top 43)) .none kV_fUp dc_fUp pm_fUp an_fUp cd_fUp ct_fUp), sl_fUp⟩)
    (c_fUp : PySem.W.codeIn K cd_fUp "put_upper_end" = true)
    (k_fUp : PySem.W.keepIn K (.ref fUp) = true)
    (a_fAcc : PySem.W.nsIn K mainGlobals "put_accumulator" = some (some (.ref fAcc)))
    (l_fAcc : K.lookup fAcc = some ⟨oc_fAcc, od_fAcc, .func (PySem.W.fnOf "put_accumulator" "put_accumulator" (defArgs (top 44)) (defBody (top 44)) (defScope (top 44)) .none kV_fAcc dc_fAcc pm_fAcc an_fAcc cd_fAcc ct_fAcc), sl_fAcc⟩)
    (c_fAcc : PySem.W.codeIn K cd_fAcc "put_accumulator" = true)
    (k_fAcc : PySem.W.keepIn K (.ref fAcc) = true)
    (a_fShp : PySem.W.nsIn K mainGlobals "shift_places" = some (some (.ref fShp)))
    (l_fShp : K.lookup fShp = some ⟨oc_fShp, od_fShp, .func (PySem.W.fnOf "shift_places" "shift_places" (defArgs (top 45)) (defBody (top 45)) (defScope (top 45)) .none kV_fShp dc_fShp pm_fShp an_fShp cd_fShp ct_fShp), sl_fShp⟩)
    (c_fShp : PySem.W.codeIn K cd_fShp "shift_places" = true)
    (k_fShp : PySem.W.keepIn K (.ref fShp) = true)
    (a_dA : PySem.W.nsIn K mainGlobals "add" = some (some (.ref dA)))
    (l_dA : K.lookup dA = some ⟨oc_dA, od_dA, .func (PySem.W.fnOf "add" "add" (defArgs (top 46)) (defBody (top 46)) (defScope (top 46)) .none kV_dA dc_dA pm_dA an_dA cd_dA ct_dA), sl_dA⟩)
    (c_dA : PySem.W.codeIn K cd_dA "add" = true)
    (k_dA : PySem.W.keepIn K (.ref dA) = true)
    (a_dS : PySem.W.nsIn K mainGlobals "subtract" = some (some (.ref dS)))
    (l_dS : K.lookup dS = some ⟨oc_dS, od_dS, .func (PySem.W.fnOf "subtract" "subtract" (defArgs (top 47)) (defBody (top 47)) (defScope (top 47)) .none kV_dS dc_dS pm_dS an_dS cd_dS ct_dS), sl_dS⟩)
    (c_dS : PySem.W.codeIn K cd_dS "subtract" = true)
    (k_dS : PySem.W.keepIn K (.ref dS) = true)
    (a_dH : PySem.W.nsIn K mainGlobals "hold_multiplier" = some (some (.ref dH)))
    (l_dH : K.lookup dH = some ⟨oc_dH, od_dH, .func (PySem.W.fnOf "hold_multiplier" "hold_multiplier" (defArgs (top 48)) (defBody (top 48)) (defScope (top 48)) .none kV_dH dc_dH pm_dH an_dH cd_dH ct_dH), sl_dH⟩)
    (c_dH : PySem.W.codeIn K cd_dH "hold_multiplier" = true)
    (k_dH : PySem.W.keepIn K (.ref dH) = true)
    (a_dV : PySem.W.nsIn K mainGlobals "add_product" = some (some (.ref dV)))
    (l_dV : K.lookup dV = some ⟨oc_dV, od_dV, .func (PySem.W.fnOf "add_product" "add_product" (defArgs (top 49)) (defBody (top 49)) (defScope (top 49)) .none kV_dV dc_dV pm_dV an_dV cd_dV ct_dV), sl_dV⟩)
    (c_dV : PySem.W.codeIn K cd_dV "add_product" = true)
    (k_dV : PySem.W.keepIn K (.ref dV) = true)
    (a_dN : PySem.W.nsIn K mainGlobals "subtract_product" = some (some (.ref dN)))
    (l_dN : K.lookup dN = some ⟨oc_dN, od_dN, .func (PySem.W.fnOf "subtract_product" "subtract_product" (defArgs (top 50)) (defBody (top 50)) (defScope (top 50)) .none kV_dN dc_dN pm_dN an_dN cd_dN ct_dN), sl_dN⟩)
    (c_dN : PySem.W.codeIn K cd_dN "subtract_product" = true)
    (k_dN : PySem.W.keepIn K (.ref dN) = true)
    (a_dC : PySem.W.nsIn K mainGlobals "add_common_bits" = some (some (.ref dC)))
    (l_dC : K.lookup dC = some ⟨oc_dC, od_dC, .func (PySem.W.fnOf "add_common_bits" "add_common_bits" (defArgs (top 51)) (defBody (top 51)) (defScope (top 51)) .none kV_dC dc_dC pm_dC an_dC cd_dC ct_dC), sl_dC⟩)
    (c_dC : PySem.W.codeIn K cd_dC "add_common_bits" = true)
    (k_dC : PySem.W.keepIn K (.ref dC) = true)
    (a_dT : PySem.W.nsIn K mainGlobals "store_and_clear" = some (some (.ref dT)))
    (l_dT : K.lookup dT = some ⟨oc_dT, od_dT, .func (PySem.W.fnOf "store_and_clear" "store_and_clear" (defArgs (top 53)) (defBody (top 53)) (defScope (top 53)) .none kV_dT dc_dT pm_dT an_dT cd_dT ct_dT), sl_dT⟩)
    (c_dT : PySem.W.codeIn K cd_dT "store_and_clear" = true)
    (k_dT : PySem.W.keepIn K (.ref dT) = true)
    (a_dU : PySem.W.nsIn K mainGlobals "store_accumulator" = some (some (.ref dU)))
    (l_dU : K.lookup dU = some ⟨oc_dU, od_dU, .func (PySem.W.fnOf "store_accumulator" "store_accumulator" (defArgs (top 52)) (defBody (top 52)) (defScope (top 52)) .none kV_dU dc_dU pm_dU an_dU cd_dU ct_dU), sl_dU⟩)
    (c_dU : PySem.W.codeIn K cd_dU "store_accumulator" = true)
    (k_dU : PySem.W.keepIn K (.ref dU) = true)
    (a_dR : PySem.W.nsIn K mainGlobals "shift_right" = some (some (.ref dR)))
    (l_dR : K.lookup dR = some ⟨oc_dR, od_dR, .func (PySem.W.fnOf "shift_right" "shift_right" (defArgs (top 54)) (defBody (top 54)) (defScope (top 54)) .none kV_dR dc_dR pm_dR an_dR cd_dR ct_dR), sl_dR⟩)
    (c_dR : PySem.W.codeIn K cd_dR "shift_right" = true)
    (k_dR : PySem.W.keepIn K (.ref dR) = true)
    (a_dL : PySem.W.nsIn K mainGlobals "shift_left" = some (some (.ref dL)))
    (l_dL : K.lookup dL = some ⟨oc_dL, od_dL, .func (PySem.W.fnOf "shift_left" "shift_left" (defArgs (top 55)) (defBody (top 55)) (defScope (top 55)) .none kV_dL dc_dL pm_dL an_dL cd_dL ct_dL), sl_dL⟩)
    (c_dL : PySem.W.codeIn K cd_dL "shift_left" = true)
    (k_dL : PySem.W.keepIn K (.ref dL) = true)
    (a_dE : PySem.W.nsIn K mainGlobals "jump_unless_below" = some (some (.ref dE)))
    (l_dE : K.lookup dE = some ⟨oc_dE, od_dE, .func (PySem.W.fnOf "jump_unless_below" "jump_unless_below" (defArgs (top 56)) (defBody (top 56)) (defScope (top 56)) .none kV_dE dc_dE pm_dE an_dE cd_dE ct_dE), sl_dE⟩)
    (c_dE : PySem.W.codeIn K cd_dE "jump_unless_below" = true)
    (k_dE : PySem.W.keepIn K (.ref dE) = true)
    (a_dG : PySem.W.nsIn K mainGlobals "jump_if_below" = some (some (.ref dG)))
    (l_dG : K.lookup dG = some ⟨oc_dG, od_dG, .func (PySem.W.fnOf "jump_if_below" "jump_if_below" (defArgs (top 57)) (defBody (top 57)) (defScope (top 57)) .none kV_dG dc_dG pm_dG an_dG cd_dG ct_dG), sl_dG⟩)
    (c_dG : PySem.W.codeIn K cd_dG "jump_if_below" = true)
    (k_dG : PySem.W.keepIn K (.ref dG) = true)
    (a_dI : PySem.W.nsIn K mainGlobals "read_sign" = some (some (.ref dI)))
    (l_dI : K.lookup dI = some ⟨oc_dI, od_dI, .func (PySem.W.fnOf "read_sign" "read_sign" (defArgs (top 58)) (defBody (top 58)) (defScope (top 58)) .none kV_dI dc_dI pm_dI an_dI cd_dI ct_dI), sl_dI⟩)
    (c_dI : PySem.W.codeIn K cd_dI "read_sign" = true)
    (k_dI : PySem.W.keepIn K (.ref dI) = true)
    (a_dO : PySem.W.nsIn K mainGlobals "print_sign" = some (some (.ref dO)))
    (l_dO : K.lookup dO = some ⟨oc_dO, od_dO, .func (PySem.W.fnOf "print_sign" "print_sign" (defArgs (top 59)) (defBody (top 59)) (defScope (top 59)) .none kV_dO dc_dO pm_dO an_dO cd_dO ct_dO), sl_dO⟩)
    (c_dO : PySem.W.codeIn K cd_dO "print_sign" = true)
    (k_dO : PySem.W.keepIn K (.ref dO) = true)
    (a_dF : PySem.W.nsIn K mainGlobals "store_last_printed" = some (some (.ref dF)))
    (l_dF : K.lookup dF = some ⟨oc_dF, od_dF, .func (PySem.W.fnOf "store_last_printed" "store_last_printed" (defArgs (top 60)) (defBody (top 60)) (defScope (top 60)) .none kV_dF dc_dF pm_dF an_dF cd_dF ct_dF), sl_dF⟩)
    (c_dF : PySem.W.codeIn K cd_dF "store_last_printed" = true)
    (k_dF : PySem.W.keepIn K (.ref dF) = true)
    (a_dY : PySem.W.nsIn K mainGlobals "round_off" = some (some (.ref dY)))
    (l_dY : K.lookup dY = some ⟨oc_dY, od_dY, .func (PySem.W.fnOf "round_off" "round_off" (defArgs (top 61)) (defBody (top 61)) (defScope (top 61)) .none kV_dY dc_dY pm_dY an_dY cd_dY ct_dY), sl_dY⟩)
    (c_dY : PySem.W.codeIn K cd_dY "round_off" = true)
    (k_dY : PySem.W.keepIn K (.ref dY) = true)
    (a_dX : PySem.W.nsIn K mainGlobals "do_nothing" = some (some (.ref dX)))
    (l_dX : K.lookup dX = some ⟨oc_dX, od_dX, .func (PySem.W.fnOf "do_nothing" "do_nothing" (defArgs (top 62)) (defBody (top 62)) (defScope (top 62)) .none kV_dX dc_dX pm_dX an_dX cd_dX ct_dX), sl_dX⟩)
    (c_dX : PySem.W.codeIn K cd_dX "do_nothing" = true)
    (k_dX : PySem.W.keepIn K (.ref dX) = true)
    (a_dZ : PySem.W.nsIn K mainGlobals "stop" = some (some (.ref dZ)))
    (l_dZ : K.lookup dZ = some ⟨oc_dZ, od_dZ, .func (PySem.W.fnOf "stop" "stop" (defArgs (top 63)) (defBody (top 63)) (defScope (top 63)) .none kV_dZ dc_dZ pm_dZ an_dZ cd_dZ ct_dZ), sl_dZ⟩)
    (c_dZ : PySem.W.codeIn K cd_dZ "stop" = true)
    (k_dZ : PySem.W.keepIn K (.ref dZ) = true)
    (a_fRun : PySem.W.nsIn K mainGlobals "run" = some (some (.ref fRun)))
    (l_fRun : K.lookup fRun = some ⟨oc_fRun, od_fRun, .func (PySem.W.fnOf "run" "run" (defArgs (top 73)) (defBody (top 73)) (defScope (top 73)) .none kV_fRun dc_fRun pm_fRun an_fRun cd_fRun ct_fRun), sl_fRun⟩)
    (c_fRun : PySem.W.codeIn K cd_fRun "run" = true)
    (k_fRun : PySem.W.keepIn K (.ref fRun) = true)
    (a_fHin : PySem.W.nsIn K mainGlobals "what_hinders" = some (some (.ref fHin)))
    (l_fHin : K.lookup fHin = some ⟨oc_fHin, od_fHin, .func (PySem.W.fnOf "what_hinders" "what_hinders" (defArgs (top 74)) (defBody (top 74)) (defScope (top 74)) .none kV_fHin dc_fHin pm_fHin an_fHin cd_fHin ct_fHin), sl_fHin⟩)
    (c_fHin : PySem.W.codeIn K cd_fHin "what_hinders" = true)
    (k_fHin : PySem.W.keepIn K (.ref fHin) = true)
    (a_fAL : PySem.W.nsIn K mainGlobals "answer_look" = some (some (.ref fAL)))
    (l_fAL : K.lookup fAL = some ⟨oc_fAL, od_fAL, .func (PySem.W.fnOf "answer_look" "answer_look" (defArgs (top 93)) (defBody (top 93)) (defScope (top 93)) .none kV_fAL dc_fAL pm_fAL an_fAL cd_fAL ct_fAL), sl_fAL⟩)
    (c_fAL : PySem.W.codeIn K cd_fAL "answer_look" = true)
    (k_fAL : PySem.W.keepIn K (.ref fAL) = true)
    (adD : PySem.W.nsIn K mainGlobals "DEEDS" = some (some (.ref dD)))
    (ldD : K.lookup dD = some ⟨.type "dict", none, .dict #[⟨h0_dD, .str "A" t0_dD, .ref dA⟩, ⟨h1_dD, .str "S" t1_dD, .ref dS⟩, ⟨h2_dD, .str "H" t2_dD, .ref dH⟩, ⟨h3_dD, .str "V" t3_dD, .ref dV⟩, ⟨h4_dD, .str "N" t4_dD, .ref dN⟩, ⟨h5_dD, .str "C" t5_dD, .ref dC⟩, ⟨h6_dD, .str "T" t6_dD, .ref dT⟩, ⟨h7_dD, .str "U" t7_dD, .ref dU⟩, ⟨h8_dD, .str "R" t8_dD, .ref dR⟩, ⟨h9_dD, .str "L" t9_dD, .ref dL⟩, ⟨h10_dD, .str "E" t10_dD, .ref dE⟩, ⟨h11_dD, .str "G" t11_dD, .ref dG⟩, ⟨h12_dD, .str "I" t12_dD, .ref dI⟩, ⟨h13_dD, .str "O" t13_dD, .ref dO⟩, ⟨h14_dD, .str "F" t14_dD, .ref dF⟩, ⟨h15_dD, .str "Y" t15_dD, .ref dY⟩, ⟨h16_dD, .str "X" t16_dD, .ref dX⟩, ⟨h17_dD, .str "Z" t17_dD, .ref dZ⟩] ep_dD, #[]⟩)
    (e0_dD : h0_dD = hashStr w "A")
    (e1_dD : h1_dD = hashStr w "S")
    (e2_dD : h2_dD = hashStr w "H")
    (e3_dD : h3_dD = hashStr w "V")
    (e4_dD : h4_dD = hashStr w "N")
    (e5_dD : h5_dD = hashStr w "C")
    (e6_dD : h6_dD = hashStr w "T")
    (e7_dD : h7_dD = hashStr w "U")
    (e8_dD : h8_dD = hashStr w "R")
    (e9_dD : h9_dD = hashStr w "L")
    (e10_dD : h10_dD = hashStr w "E")
    (e11_dD : h11_dD = hashStr w "G")
    (e12_dD : h12_dD = hashStr w "I")
    (e13_dD : h13_dD = hashStr w "O")
    (e14_dD : h14_dD = hashStr w "F")
    (e15_dD : h15_dD = hashStr w "Y")
    (e16_dD : h16_dD = hashStr w "X")
    (e17_dD : h17_dD = hashStr w "Z")
    (ydD : (dD == sysModules) = false) :
    ∃ fd : FuncData, (∀ (s : Shared) (us : List Value), us.length = (["calls"] : List Str).length → BindsTo s fd ⟨us, []⟩ ((["calls"] : List Str).zip us)) ∧ ∀ base : Heap, K.In base → base.Ns mainGlobals mg → FnOk P w K mg base (CXx P w) 9 fa fd ["calls"] (spTop K) := by
  have e0 : fTop = fa := Value.ref.inj (Option.some.inj ((PySem.W.mg_of X G a_fTop).symm.trans hfa))
  subst e0
  have mC := PySem.W.mg_of X G aC
  have mCR := PySem.W.mg_of X G aCR
  have mCN := PySem.W.mg_of X G aCN
  have clC : Cls K C := ⟨pgC, hdC, poC, saC⟩
  have clCR : Cls K CR := ⟨pgCR, hdCR, poCR, saCR⟩
  have i_SPACE : GI mg "SPACE" (32) := ⟨_, PySem.W.mg_of X G g_SPACE⟩
  have i_LINE_END : GI mg "LINE_END" (10) := ⟨_, PySem.W.mg_of X G g_LINE_END⟩
  have i_DIGIT_ZERO : GI mg "DIGIT_ZERO" (48) := ⟨_, PySem.W.mg_of X G g_DIGIT_ZERO⟩
  have i_DIGIT_NINE : GI mg "DIGIT_NINE" (57) := ⟨_, PySem.W.mg_of X G g_DIGIT_NINE⟩
  have i_MOST_DIGITS : GI mg "MOST_DIGITS" (4) := ⟨_, PySem.W.mg_of X G g_MOST_DIGITS⟩
  have i_NUMBERS_BELOW : GI mg "NUMBERS_BELOW" (2048) := ⟨_, PySem.W.mg_of X G g_NUMBERS_BELOW⟩
  have i_SIGN_WEIGHT : GI mg "SIGN_WEIGHT" (4096) := ⟨_, PySem.W.mg_of X G g_SIGN_WEIGHT⟩
  have i_REFUSED : GI mg "REFUSED" (-1) := ⟨_, PySem.W.mg_of X G g_REFUSED⟩
  have i_PLACES : GI mg "PLACES" (1024) := ⟨_, PySem.W.mg_of X G g_PLACES⟩
  have i_PAIRS : GI mg "PAIRS" (512) := ⟨_, PySem.W.mg_of X G g_PAIRS⟩
  have i_WORDS_BELOW : GI mg "WORDS_BELOW" (131072) := ⟨_, PySem.W.mg_of X G g_WORDS_BELOW⟩
  have i_LONGEST_TEXT : GI mg "LONGEST_TEXT" (16384) := ⟨_, PySem.W.mg_of X G g_LONGEST_TEXT⟩
  have i_LONGEST_PIECE : GI mg "LONGEST_PIECE" (4096) := ⟨_, PySem.W.mg_of X G g_LONGEST_PIECE⟩
  have i_TAPE_SIGNS_BELOW : GI mg "TAPE_SIGNS_BELOW" (32) := ⟨_, PySem.W.mg_of X G g_TAPE_SIGNS_BELOW⟩
  have i_LONGEST_TAPE : GI mg "LONGEST_TAPE" (65536) := ⟨_, PySem.W.mg_of X G g_LONGEST_TAPE⟩
  have i_BEGIN : GI mg "BEGIN" (0) := ⟨_, PySem.W.mg_of X G g_BEGIN⟩
  have i_WORDS : GI mg "WORDS" (1) := ⟨_, PySem.W.mg_of X G g_WORDS⟩
  have i_ORDERS : GI mg "ORDERS" (2) := ⟨_, PySem.W.mg_of X G g_ORDERS⟩
  have i_TAPE : GI mg "TAPE" (3) := ⟨_, PySem.W.mg_of X G g_TAPE⟩
  have i_START : GI mg "START" (4) := ⟨_, PySem.W.mg_of X G g_START⟩
  have i_SHORT_WIDTH : GI mg "SHORT_WIDTH" (17) := ⟨_, PySem.W.mg_of X G g_SHORT_WIDTH⟩
  have i_LONG_WIDTH : GI mg "LONG_WIDTH" (35) := ⟨_, PySem.W.mg_of X G g_LONG_WIDTH⟩
  have i_ACCUMULATOR_WIDTH : GI mg "ACCUMULATOR_WIDTH" (71) := ⟨_, PySem.W.mg_of X G g_ACCUMULATOR_WIDTH⟩
  have i_MOST_TAKEN : GI mg "MOST_TAKEN" (65536) := ⟨_, PySem.W.mg_of X G g_MOST_TAKEN⟩
  have i_LOWER_WIDTH : GI mg "LOWER_WIDTH" (64) := ⟨_, PySem.W.mg_of X G g_LOWER_WIDTH⟩
  have i_MOST_STEPS : GI mg "MOST_STEPS" (1000000) := ⟨_, PySem.W.mg_of X G g_MOST_STEPS⟩
  have i_MOST_UNTAKEN : GI mg "MOST_UNTAKEN" (65536) := ⟨_, PySem.W.mg_of X G g_MOST_UNTAKEN⟩
  have i_ALL_DONE : GI mg "ALL_DONE" (0) := ⟨_, PySem.W.mg_of X G g_ALL_DONE⟩
  have i_STOPPED : GI mg "STOPPED" (1) := ⟨_, PySem.W.mg_of X G g_STOPPED⟩
  have i_NO_SIGN : GI mg "NO_SIGN" (2) := ⟨_, PySem.W.mg_of X G g_NO_SIGN⟩
  have i_NO_ORDER : GI mg "NO_ORDER" (3) := ⟨_, PySem.W.mg_of X G g_NO_ORDER⟩
  have i_TOO_MUCH_PRINTED : GI mg "TOO_MUCH_PRINTED" (4) := ⟨_, PySem.W.mg_of X G g_TOO_MUCH_PRINTED⟩
  have i_RUN : GI mg "RUN" (5) := ⟨_, PySem.W.mg_of X G g_RUN⟩
  have i_TAKE : GI mg "TAKE" (6) := ⟨_, PySem.W.mg_of X G g_TAKE⟩
  have i_LOOK : GI mg "LOOK" (7) := ⟨_, PySem.W.mg_of X G g_LOOK⟩
  have i_REGISTERS : GI mg "REGISTERS" (8) := ⟨_, PySem.W.mg_of X G g_REGISTERS⟩
  have i_SIGNS : GS mg "SIGNS" signsS := ⟨_, PySem.W.mg_of X G g_SIGNS⟩
  have i_SHORT_ENDING : GS mg "SHORT_ENDING" "F" := ⟨_, PySem.W.mg_of X G g_SHORT_ENDING⟩
  have i_LONG_ENDING : GS mg "LONG_ENDING" "D" := ⟨_, PySem.W.mg_of X G g_LONG_ENDING⟩
  have o_len := PySem.W.mg_none_of X G b_len
  have o_enumerate := PySem.W.mg_none_of X G b_enumerate
  have o_ord := PySem.W.mg_none_of X G b_ord
  have o_max := PySem.W.mg_none_of X G b_max
  have o_range := PySem.W.mg_none_of X G b_range
  have F_fProg := fun_mk (st := (top 18)) l_fProg c_fProg k_fProg
  have B_fProg := F_fProg.binds (ps := ["text"]) fun _ _ _ _ _ _ us hl => match us, hl with | [_], _ => rfl
  have m_fProg := PySem.W.mg_of X G a_fProg
  have F_fSplit := fun_mk (st := (top 19)) l_fSplit c_fSplit k_fSplit
  have B_fSplit := F_fSplit.binds (ps := ["text"]) fun _ _ _ _ _ _ us hl => match us, hl with | [_], _ => rfl
  have m_fSplit := PySem.W.mg_of X G a_fSplit
  have F_fOrd := fun_mk (st := (top 20)) l_fOrd c_fOrd k_fOrd
  have B_fOrd := F_fOrd.binds (ps := ["codes"]) fun _ _ _ _ _ _ us hl => match us, hl with | [_], _ => rfl
  have m_fOrd := PySem.W.mg_of X G a_fOrd
  have F_fSign := fun_mk (st := (top 21)) l_fSign c_fSign k_fSign
  have B_fSign := F_fSign.binds (ps := ["code"]) fun _ _ _ _ _ _ us hl => match us, hl with | [_], _ => rfl
  have m_fSign := PySem.W.mg_of X G a_fSign
  have F_fNum := fun_mk (st := (top 22)) l_fNum c_fNum k_fNum
  have B_fNum := F_fNum.binds (ps := ["digits"]) fun _ _ _ _ _ _ us hl => match us, hl with | [_], _ => rfl
  have m_fNum := PySem.W.mg_of X G a_fNum
  have F_fBit := fun_mk (st := (top 23)) l_fBit c_fBit k_fBit
  have B_fBit := F_fBit.binds (ps := ["code"]) fun _ _ _ _ _ _ us hl => match us, hl with | [_], _ => rfl
  have m_fBit := PySem.W.mg_of X G a_fBit
  have F_fInit := fun_mk (st := (sM 0)) l_fInit c_fInit k_fInit
  have B_fInit := F_fInit.binds (ps := ["self"]) fun _ _ _ _ _ _ us hl => match us, hl with | [_], _ => rfl
  have m_fInit : Mk K C fInit := ⟨mkC, a_fInit, i_fInit, kcC⟩
  have F_fBegin := fun_mk (st := (sM 1)) l_fBegin c_fBegin k_fBegin
  have B_fBegin := F_fBegin.binds (ps := ["self"]) fun _ _ _ _ _ _ us hl => match us, hl with | [_], _ => rfl
  have m_fBegin : Meth K C "begin" fBegin := ⟨a_fBegin, i_fBegin, k_fBegin⟩
  have F_fPW := fun_mk (st := (sM 2)) l_fPW c_fPW k_fPW
  have B_fPW := F_fPW.binds (ps := ["self", "at", "n", "words"]) fun _ _ _ _ _ _ us hl => match us, hl with | [_, _, _, _], _ => rfl
  have m_fPW : Meth K C "put_words" fPW := ⟨a_fPW, i_fPW, k_fPW⟩
  have F_fPO := fun_mk (st := (sM 3)) l_fPO c_fPO k_fPO
  have B_fPO := F_fPO.binds (ps := ["self", "at", "n", "text"]) fun _ _ _ _ _ _ us hl => match us, hl with | [_, _, _, _], _ => rfl
  have m_fPO : Meth K C "put_orders" fPO := ⟨a_fPO, i_fPO, k_fPO⟩
  have F_fPS := fun_mk (st := (sM 4)) l_fPS c_fPS k_fPS
  have B_fPS := F_fPS.binds (ps := ["self", "at", "words"]) fun _ _ _ _ _ _ us hl => match us, hl with | [_, _, _], _ => rfl
  have m_fPS : Meth K C "put_short_words" fPS := ⟨a_fPS, i_fPS, k_fPS⟩
  have F_fLT := fun_mk (st := (sM 5)) l_fLT c_fLT k_fLT
  have B_fLT := F_fLT.binds (ps := ["self", "n", "signs"]) fun _ _ _ _ _ _ us hl => match us, hl with | [_, _, _], _ => rfl
  have m_fLT : Meth K C "lay_tape" fLT := ⟨a_fLT, i_fLT, k_fLT⟩
  have F_fSA := fun_mk (st := (sM 6)) l_fSA c_fSA k_fSA
  have B_fSA := F_fSA.binds (ps := ["self", "place"]) fun _ _ _ _ _ _ us hl => match us, hl with | [_, _], _ => rfl
  have m_fSA : Meth K C "start_at" fSA := ⟨a_fSA, i_fSA, k_fSA⟩
  have F_fHave := fun_mk (st := (top 36)) l_fHave c_fHave k_fHave
  have B_fHave := F_fHave.binds (ps := ["at", "many"]) fun _ _ _ _ _ _ us hl => match us, hl with | [_, _], _ => rfl
  have m_fHave := PySem.W.mg_of X G a_fHave
  have F_fBelow := fun_mk (st := (top 37)) l_fBelow c_fBelow k_fBelow
  have B_fBelow := F_fBelow.binds (ps := ["numbers", "limit"]) fun _ _ _ _ _ _ us hl => match us, hl with | [_, _], _ => rfl
  have m_fBelow := PySem.W.mg_of X G a_fBelow
  have F_fRI := fun_mk (st := (sR 0)) l_fRI c_fRI k_fRI
  have B_fRI := F_fRI.binds (ps := ["self", "numbers"]) fun _ _ _ _ _ _ us hl => match us, hl with | [_, _], _ => rfl
  have m_fRI : Mk K CR fRI := ⟨mkCR, a_fRI, i_fRI, kcCR⟩
  have F_fMore := fun_mk (st := (sR 1)) l_fMore c_fMore k_fMore
  have B_fMore := F_fMore.binds (ps := ["self"]) fun _ _ _ _ _ _ us hl => match us, hl with | [_], _ => rfl
  have m_fMore : Meth K CR "has_more" fMore := ⟨a_fMore, i_fMore, k_fMore⟩
  have F_fNext := fun_mk (st := (sR 2)) l_fNext c_fNext k_fNext
  have B_fNext := F_fNext.binds (ps := ["self"]) fun _ _ _ _ _ _ us hl => match us, hl with | [_], _ => rfl
  have m_fNext : Meth K CR "next_number" fNext := ⟨a_fNext, i_fNext, k_fNext⟩
  have F_fRow := fun_mk (st := (sR 3)) l_fRow c_fRow k_fRow
  have B_fRow := F_fRow.binds (ps := ["self"]) fun _ _ _ _ _ _ us hl => match us, hl with | [_], _ => rfl
  have m_fRow : Meth K CR "next_row" fRow := ⟨a_fRow, i_fRow, k_fRow⟩
  have F_fTop := fun_mk (st := (top 87)) l_fTop c_fTop k_fTop
  have B_fTop := F_fTop.binds (ps := ["calls"]) fun _ _ _ _ _ _ us hl => match us, hl with | [_], _ => rfl
  have m_fTop := PySem.W.mg_of X G a_fTop
  have F_fOf := fun_mk (st := (top 88)) l_fOf c_fOf k_fOf
  have B_fOf := F_fOf.binds (ps := ["machine", "calls"]) fun _ _ _ _ _ _ us hl => match us, hl with | [_, _], _ => rfl
  have m_fOf := PySem.W.mg_of X G a_fOf
  have F_fCall := fun_mk (st := (top 89)) l_fCall c_fCall k_fCall
  have B_fCall := F_fCall.binds (ps := ["machine", "reader"]) fun _ _ _ _ _ _ us hl => match us, hl with | [_, _], _ => rfl
  have m_fCall := PySem.W.mg_of X G a_fCall
  have F_fAW := fun_mk (st := (top 90)) l_fAW c_fAW k_fAW
  have B_fAW := F_fAW.binds (ps := ["machine", "reader"]) fun _ _ _ _ _ _ us hl => match us, hl with | [_, _], _ => rfl
  have m_fAW := PySem.W.mg_of X G a_fAW
  have F_fAO := fun_mk (st := (top 91)) l_fAO c_fAO k_fAO
  have B_fAO := F_fAO.binds (ps := ["machine", "reader"]) fun _ _ _ _ _ _ us hl => match us, hl with | [_, _], _ => rfl
  have m_fAO := PySem.W.mg_of X G a_fAO
  have F_fAT := fun_mk (st := (top 92)) l_fAT c_fAT k_fAT
  have B_fAT := F_fAT.binds (ps := ["machine", "reader"]) fun _ _ _ _ _ _ us hl => match us, hl with | [_, _], _ => rfl
  have m_fAT := PySem.W.mg_of X G a_fAT
  have F_fBits := fun_mk (st := (top 4)) l_fBits c_fBits k_fBits
  have B_fBits := F_fBits.binds (ps := ["number", "width"]) fun _ _ _ _ _ _ us hl => match us, hl with | [_, _], _ => rfl
  have m_fBits := PySem.W.mg_of X G a_fBits
  have F_fWS := fun_mk (st := (top 5)) l_fWS c_fWS k_fWS
  have B_fWS := F_fWS.binds (ps := ["number", "width"]) fun _ _ _ _ _ _ us hl => match us, hl with | [_, _], _ => rfl
  have m_fWS := PySem.W.mg_of X G a_fWS
  have F_fLW := fun_mk (st := (sM 7)) l_fLW c_fLW k_fLW
  have B_fLW := F_fLW.binds (ps := ["self", "place"]) fun _ _ _ _ _ _ us hl => match us, hl with | [_, _], _ => rfl
  have m_fLW : Meth K C "long_word" fLW := ⟨a_fLW, i_fLW, k_fLW⟩
  have F_fPL := fun_mk (st := (sM 8)) l_fPL c_fPL k_fPL
  have B_fPL := F_fPL.binds (ps := ["self", "place", "word"]) fun _ _ _ _ _ _ us hl => match us, hl with | [_, _, _], _ => rfl
  have m_fPL : Meth K C "put_long_word" fPL := ⟨a_fPL, i_fPL, k_fPL⟩
  have F_fTk := fun_mk (st := (sM 9)) l_fTk c_fTk k_fTk
  have B_fTk := F_fTk.binds (ps := ["self", "most"]) fun _ _ _ _ _ _ us hl => match us, hl with | [_, _], _ => rfl
  have m_fTk : Meth K C "take" fTk := ⟨a_fTk, i_fTk, k_fTk⟩
  have F_fLk := fun_mk (st := (sM 10)) l_fLk c_fLk k_fLk
  have B_fLk := F_fLk.binds (ps := ["self", "place", "wide"]) fun _ _ _ _ _ _ us hl => match us, hl with | [_, _, _], _ => rfl
  have m_fLk : Meth K C "look" fLk := ⟨a_fLk, i_fLk, k_fLk⟩
  have F_fRg := fun_mk (st := (sM 11)) l_fRg c_fRg k_fRg
  have B_fRg := F_fRg.binds (ps := ["self"]) fun _ _ _ _ _ _ us hl => match us, hl with | [_], _ => rfl
  have m_fRg : Meth K C "tell_registers" fRg := ⟨a_fRg, i_fRg, k_fRg⟩
  have F_fPlc := fun_mk (st := (top 39)) l_fPlc c_fPlc k_fPlc
  have B_fPlc := F_fPlc.binds (ps := ["order"]) fun _ _ _ _ _ _ us hl => match us, hl with | [_], _ => rfl
  have m_fPlc := PySem.W.mg_of X G a_fPlc
  have F_fIsl := fun_mk (st := (top 40)) l_fIsl c_fIsl k_fIsl
  have B_fIsl := F_fIsl.binds (ps := ["order"]) fun _ _ _ _ _ _ us hl => match us, hl with | [_], _ => rfl
  have m_fIsl := PySem.W.mg_of X G a_fIsl
  have F_fNum2 := fun_mk (st := (top 41)) l_fNum2 c_fNum2 k_fNum2
  have B_fNum2 := F_fNum2.binds (ps := ["machine", "order"]) fun _ _ _ _ _ _ us hl => match us, hl with | [_, _], _ => rfl
  have m_fNum2 := PySem.W.mg_of X G a_fNum2
  have F_fPut := fun_mk (st := (top 42)) l_fPut c_fPut k_fPut
  have B_fPut := F_fPut.binds (ps := ["machine", "order", "word"]) fun _ _ _ _ _ _ us hl => match us, hl with | [_, _, _], _ => rfl
  have m_fPut := PySem.W.mg_of X G a_fPut
  have F_fUp := fun_mk (st := (top 43)) l_fUp c_fUp k_fUp
  have B_fUp := F_fUp.binds (ps := ["machine", "order", "long_word"]) fun _ _ _ _ _ _ us hl => match us, hl with | [_, _, _], _ => rfl
  have m_fUp := PySem.W.mg_of X G a_fUp
  have F_fAcc := fun_mk (st := (top 44)) l_fAcc c_fAcc k_fAcc
  have B_fAcc := F_fAcc.binds (ps := ["machine", "number"]) fun _ _ _ _ _ _ us hl => match us, hl with | [_, _], _ => rfl
  have m_fAcc := PySem.W.mg_of X G a_fAcc
  have F_fShp := fun_mk (st := (top 45)) l_fShp c_fShp k_fShp
  have B_fShp := F_fShp.binds (ps := ["order"]) fun _ _ _ _ _ _ us hl => match us, hl with | [_], _ => rfl
  have m_fShp := PySem.W.mg_of X G a_fShp
  have F_dA := fun_mk (st := (top 46)) l_dA c_dA k_dA
  have B_dA := F_dA.binds (ps := ["machine", "order"]) fun _ _ _ _ _ _ us hl => match us, hl with | [_, _], _ => rfl
  have m_dA := PySem.W.mg_of X G a_dA
  have F_dS := fun_mk (st := (top 47)) l_dS c_dS k_dS
  have B_dS := F_dS.binds (ps := ["machine", "order"]) fun _ _ _ _ _ _ us hl => match us, hl with | [_, _], _ => rfl
  have m_dS := PySem.W.mg_of X G a_dS
  have F_dH := fun_mk (st := (top 48)) l_dH c_dH k_dH
  have B_dH := F_dH.binds (ps := ["machine", "order"]) fun _ _ _ _ _ _ us hl => match us, hl with | [_, _], _ => rfl
  have m_dH := PySem.W.mg_of X G a_dH
  have F_dV := fun_mk (st := (top 49)) l_dV c_dV k_dV
  have B_dV := F_dV.binds (ps := ["machine", "order"]) fun _ _ _ _ _ _ us hl => match us, hl with | [_, _], _ => rfl
  have m_dV := PySem.W.mg_of X G a_dV
  have F_dN := fun_mk (st := (top 50)) l_dN c_dN k_dN
  have B_dN := F_dN.binds (ps := ["machine", "order"]) fun _ _ _ _ _ _ us hl => match us, hl with | [_, _], _ => rfl
  have m_dN := PySem.W.mg_of X G a_dN
  have F_dC := fun_mk (st := (top 51)) l_dC c_dC k_dC
  have B_dC := F_dC.binds (ps := ["machine", "order"]) fun _ _ _ _ _ _ us hl => match us, hl with | [_, _], _ => rfl
  have m_dC := PySem.W.mg_of X G a_dC
  have F_dT := fun_mk (st := (top 53)) l_dT c_dT k_dT
  have B_dT := F_dT.binds (ps := ["machine", "order"]) fun _ _ _ _ _ _ us hl => match us, hl with | [_, _], _ => rfl
  have m_dT := PySem.W.mg_of X G a_dT
  have F_dU := fun_mk (st := (top 52)) l_dU c_dU k_dU
  have B_dU := F_dU.binds (ps := ["machine", "order"]) fun _ _ _ _ _ _ us hl => match us, hl with | [_, _], _ => rfl
  have m_dU := PySem.W.mg_of X G a_dU
  have F_dR := fun_mk (st := (top 54)) l_dR c_dR k_dR
  have B_dR := F_dR.binds (ps := ["machine", "order"]) fun _ _ _ _ _ _ us hl => match us, hl with | [_, _], _ => rfl
  have m_dR := PySem.W.mg_of X G a_dR
  have F_dL := fun_mk (st := (top 55)) l_dL c_dL k_dL
  have B_dL := F_dL.binds (ps := ["machine", "order"]) fun _ _ _ _ _ _ us hl => match us, hl with | [_, _], _ => rfl
  have m_dL := PySem.W.mg_of X G a_dL
  have F_dE := fun_mk (st := (top 56)) l_dE c_dE k_dE
  have B_dE := F_dE.binds (ps := ["machine", "order"]) fun _ _ _ _ _ _ us hl => match us, hl with | [_, _], _ => rfl
  have m_dE := PySem.W.mg_of X G a_dE
  have F_dG := fun_mk (st := (top 57)) l_dG c_dG k_dG
  have B_dG := F_dG.binds (ps := ["machine", "order"]) fun _ _ _ _ _ _ us hl => match us, hl with | [_, _], _ => rfl
  have m_dG := PySem.W.mg_of X G a_dG
  have F_dI := fun_mk (st := (top 58)) l_dI c_dI k_dI
  have B_dI := F_dI.binds (ps := ["machine", "order"]) fun _ _ _ _ _ _ us hl => match us, hl with | [_, _], _ => rfl
  have m_dI := PySem.W.mg_of X G a_dI
  have F_dO := fun_mk (st := (top 59)) l_dO c_dO k_dO
  have B_dO := F_dO.binds (ps := ["machine", "order"]) fun _ _ _ _ _ _ us hl => match us, hl with | [_, _], _ => rfl
  have m_dO := PySem.W.mg_of X G a_dO
  have F_dF := fun_mk (st := (top 60)) l_dF c_dF k_dF
  have B_dF := F_dF.binds (ps := ["machine", "order"]) fun _ _ _ _ _ _ us hl => match us, hl with | [_, _], _ => rfl
  have m_dF := PySem.W.mg_of X G a_dF
  have F_dY := fun_mk (st := (top 61)) l_dY c_dY k_dY
  have B_dY := F_dY.binds (ps := ["machine", "order"]) fun _ _ _ _ _ _ us hl => match us, hl with | [_, _], _ => rfl
  have m_dY := PySem.W.mg_of X G a_dY
  have F_dX := fun_mk (st := (top 62)) l_dX c_dX k_dX
  have B_dX := F_dX.binds (ps := ["machine", "order"]) fun _ _ _ _ _ _ us hl => match us, hl with | [_, _], _ => rfl
  have m_dX := PySem.W.mg_of X G a_dX
  have F_dZ := fun_mk (st := (top 63)) l_dZ c_dZ k_dZ
  have B_dZ := F_dZ.binds (ps := ["machine", "order"]) fun _ _ _ _ _ _ us hl => match us, hl with | [_, _], _ => rfl
  have m_dZ := PySem.W.mg_of X G a_dZ
  have F_fRun := fun_mk (st := (top 73)) l_fRun c_fRun k_fRun
  have B_fRun := F_fRun.binds (ps := ["machine", "steps"]) fun _ _ _ _ _ _ us hl => match us, hl with | [_, _], _ => rfl
  have m_fRun := PySem.W.mg_of X G a_fRun
  have F_fHin := fun_mk (st := (top 74)) l_fHin c_fHin k_fHin
  have B_fHin := F_fHin.binds (ps := ["machine", "sign"]) fun _ _ _ _ _ _ us hl => match us, hl with | [_, _], _ => rfl
  have m_fHin := PySem.W.mg_of X G a_fHin
  have F_fAL := fun_mk (st := (top 93)) l_fAL c_fAL k_fAL
  have B_fAL := F_fAL.binds (ps := ["machine", "reader"]) fun _ _ _ _ _ _ us hl => match us, hl with | [_, _], _ => rfl
  have m_fAL := PySem.W.mg_of X G a_fAL
  have MdD : ModD w K dD [(.inr "A", .ref dA), (.inr "S", .ref dS), (.inr "H", .ref dH), (.inr "V", .ref dV), (.inr "N", .ref dN), (.inr "C", .ref dC), (.inr "T", .ref dT), (.inr "U", .ref dU), (.inr "R", .ref dR), (.inr "L", .ref dL), (.inr "E", .ref dE), (.inr "G", .ref dG), (.inr "I", .ref dI), (.inr "O", .ref dO), (.inr "F", .ref dF), (.inr "Y", .ref dY), (.inr "X", .ref dX), (.inr "Z", .ref dZ)] := ⟨⟨_, _, _, ldD, ⟨rfl, rfl, rfl⟩, rfl, ⟨_, rfl⟩, e0_dD, rfl, ⟨_, rfl⟩, e1_dD, rfl, ⟨_, rfl⟩, e2_dD, rfl, ⟨_, rfl⟩, e3_dD, rfl, ⟨_, rfl⟩, e4_dD, rfl, ⟨_, rfl⟩, e5_dD, rfl, ⟨_, rfl⟩, e6_dD, rfl, ⟨_, rfl⟩, e7_dD, rfl, ⟨_, rfl⟩, e8_dD, rfl, ⟨_, rfl⟩, e9_dD, rfl, ⟨_, rfl⟩, e10_dD, rfl, ⟨_, rfl⟩, e11_dD, rfl, ⟨_, rfl⟩, e12_dD, rfl, ⟨_, rfl⟩, e13_dD, rfl, ⟨_, rfl⟩, e14_dD, rfl, ⟨_, rfl⟩, e15_dD, rfl, ⟨_, rfl⟩, e16_dD, rfl, ⟨_, rfl⟩, e17_dD, rfl, True.intro⟩, ydD, by show ([.inr "A", .inr "S", .inr "H", .inr "V", .inr "N", .inr "C", .inr "T", .inr "U", .inr "R", .inr "L", .inr "E", .inr "G", .inr "I", .inr "O", .inr "F", .inr "Y", .inr "X", .inr "Z"] : List Key).Nodup; decide⟩
  have mdD := PySem.W.mg_of X G adD
  have TL : TL K mg CN := ⟨i_SIGNS, i_SHORT_ENDING, i_LONG_ENDING, i_SPACE, i_LINE_END, i_DIGIT_ZERO, i_DIGIT_NINE, i_MOST_DIGITS, i_NUMBERS_BELOW, i_SIGN_WEIGHT, mCN, xCN, o_len, o_enumerate, o_ord⟩
  have TM : TM K mg C := ⟨clC, nC_short_words, nC_bits_between, nC_accumulator, nC_multiplier, nC_next_place, nC_tape, nC_printed, nC_last_printed, nC_stopped, i_REFUSED, i_PLACES, i_PAIRS, i_WORDS_BELOW, i_LONGEST_TEXT, i_LONGEST_PIECE, i_TAPE_SIGNS_BELOW, i_LONGEST_TAPE, o_max⟩
  have TR : TR K mg CR := ⟨clCR, nCR_numbers, nCR_position, o_len⟩
  have TB : TB mg := ⟨i_SHORT_WIDTH, i_LONG_WIDTH, i_ACCUMULATOR_WIDTH, i_LOWER_WIDTH, i_MOST_TAKEN, o_len⟩
  have TS : TS mg := ⟨i_SIGNS, i_MOST_STEPS, i_MOST_UNTAKEN, i_ALL_DONE, i_STOPPED, i_NO_SIGN, i_NO_ORDER, i_TOO_MUCH_PRINTED, o_len, o_range⟩
  have TC : TC mg := ⟨i_BEGIN, i_WORDS, i_ORDERS, i_TAPE, i_START, i_RUN, i_TAKE, i_LOOK, i_REGISTERS⟩
  have fin : ∀ base : Heap, FnOk P w K mg base (CXx P w) 9 fTop _ ["calls"] (spTop K) := fun base => by
    have GO := ok_ord (P := P) (w := w) (base := base) F_fOrd TL F_fSign B_fSign m_fSign F_fNum B_fNum m_fNum F_fBit B_fBit m_fBit
    have GProg := ok_prog F_fProg TL F_fOrd B_fOrd m_fOrd GO F_fSplit B_fSplit m_fSplit
    have GInit := ok_init (P := P) (w := w) (base := base) F_fInit TM F_fBegin B_fBegin m_fBegin
    have GPW := ok_putW (P := P) (w := w) (base := base) F_fPW TM o_enumerate F_fHave B_fHave m_fHave F_fBelow B_fBelow m_fBelow F_fPS B_fPS m_fPS
    have GPO := ok_putO F_fPO TM TL F_fHave B_fHave m_fHave F_fProg B_fProg m_fProg GProg F_fPS B_fPS m_fPS
    have GLT := ok_tape (P := P) (w := w) (base := base) F_fLT TM o_len F_fBelow B_fBelow m_fBelow
    have RM : RdM P w K mg base CR fNext fRow _ _ := ⟨clCR, B_fNext, m_fNext, ok_next F_fNext TR, B_fRow, m_fRow, ok_row F_fRow TR F_fNext B_fNext m_fNext⟩
    have GAW := ok_aw F_fAW clC RM B_fPW m_fPW GPW
    have GAO := ok_ao F_fAO clC RM B_fPO m_fPO GPO
    have GAT := ok_at F_fAT clC RM B_fLT m_fLT GLT
    have KBits : Kn P w K mg base 1 "bits_of" ["number", "width"] spBits := ⟨_, _, m_fBits, k_fBits, B_fBits, ok_bits F_fBits⟩
    have KWS : Kn P w K mg base 2 "with_sign" ["number", "width"] spWS := ⟨_, _, m_fWS, k_fWS, B_fWS, ok_ws F_fWS F_fBits B_fBits m_fBits⟩
    have KLW : Km P w K mg base 1 C "long_word" ["self", "place"] (spLW C) := ⟨clC, _, _, m_fLW, B_fLW, ok_lw F_fLW TM⟩
    have KPL : Km P w K mg base 1 C "put_long_word" ["self", "place", "word"] (spPL C) := ⟨clC, _, _, m_fPL, B_fPL, ok_pl F_fPL TM⟩
    have KPlc : Kn P w K mg base 1 "place_of" ["order"] spPlc := ⟨_, _, m_fPlc, k_fPlc, B_fPlc, ok_plc F_fPlc⟩
    have KIsl : Kn P w K mg base 1 "is_long" ["order"] spIsl := ⟨_, _, m_fIsl, k_fIsl, B_fIsl, ok_isl F_fIsl⟩
    have KShp : Kn P w K mg base 1 "shift_places" ["order"] spShp := ⟨_, _, m_fShp, k_fShp, B_fShp, ok_shp F_fShp⟩
    have KNum : Kn P w K mg base 3 "number_at" ["machine", "order"] (spNmA C) := ⟨_, _, m_fNum2, k_fNum2, B_fNum2, ok_nma F_fNum2 TM TB KPlc KIsl KWS KLW⟩
    have KPut : Kn P w K mg base 2 "put_word" ["machine", "order", "word"] (spPut C) := ⟨_, _, m_fPut, k_fPut, B_fPut, ok_put F_fPut TM KPlc KIsl KPL⟩
    have KUp : Kn P w K mg base 3 "put_upper_end" ["machine", "order", "long_word"] (spUp C) := ⟨_, _, m_fUp, k_fUp, B_fUp, ok_up F_fUp KIsl KPut⟩
    have KAcc : Kn P w K mg base 3 "put_accumulator" ["machine", "number"] (spAcc C) := ⟨_, _, m_fAcc, k_fAcc, B_fAcc, ok_acc F_fAcc TM TB KWS⟩
    have OD : Od P w K mg base C := ⟨TM, TB, KBits, KPlc, KShp, KNum, KPut, KUp, KAcc⟩
    have KU : Kn P w K mg base 4 "store_accumulator" ["machine", "order"] (spDeed C any2 gU) := ⟨_, _, m_dU, k_dU, B_dU, ok_U F_dU OD⟩
    have DA : Dd P w K mg base dA (spDeed C any2 gA) := ⟨_, _, by decide, k_dA, B_dA, ok_A F_dA OD⟩
    have DS : Dd P w K mg base dS (spDeed C any2 gS) := ⟨_, _, by decide, k_dS, B_dS, ok_S F_dS OD⟩
    have DH : Dd P w K mg base dH (spDeed C any2 gH) := ⟨_, _, by decide, k_dH, B_dH, ok_H F_dH OD⟩
    have DV : Dd P w K mg base dV (spDeed C any2 gV) := ⟨_, _, by decide, k_dV, B_dV, ok_V F_dV OD⟩
    have DN : Dd P w K mg base dN (spDeed C any2 gN) := ⟨_, _, by decide, k_dN, B_dN, ok_N F_dN OD⟩
    have DC : Dd P w K mg base dC (spDeed C any2 gC) := ⟨_, _, by decide, k_dC, B_dC, ok_C F_dC OD⟩
    have DT : Dd P w K mg base dT (spDeed C any2 gT) := ⟨_, _, by decide, k_dT, B_dT, ok_T F_dT OD KU⟩
    have DU : Dd P w K mg base dU (spDeed C any2 gU) := ⟨_, _, by decide, k_dU, B_dU, ok_U F_dU OD⟩
    have DR : Dd P w K mg base dR (spDeed C pos2 gR) := ⟨_, _, by decide, k_dR, B_dR, ok_R F_dR OD⟩
    have DL : Dd P w K mg base dL (spDeed C pos2 gL) := ⟨_, _, by decide, k_dL, B_dL, ok_L F_dL OD⟩
    have DE : Dd P w K mg base dE (spDeed C any2 gE) := ⟨_, _, by decide, k_dE, B_dE, ok_E F_dE OD⟩
    have DG : Dd P w K mg base dG (spDeed C any2 gG) := ⟨_, _, by decide, k_dG, B_dG, ok_G F_dG OD⟩
    have DI : Dd P w K mg base dI (spDeed C tape2 gI) := ⟨_, _, by decide, k_dI, B_dI, ok_I F_dI OD⟩
    have DO : Dd P w K mg base dO (spDeed C calm2 gO) := ⟨_, _, by decide, k_dO, B_dO, ok_O F_dO OD⟩
    have DF : Dd P w K mg base dF (spDeed C any2 gF) := ⟨_, _, by decide, k_dF, B_dF, ok_F F_dF OD⟩
    have DY : Dd P w K mg base dY (spDeed C any2 gY) := ⟨_, _, by decide, k_dY, B_dY, ok_Y F_dY OD⟩
    have DX : Dd P w K mg base dX (spDeed C any2 gX) := ⟨_, _, by decide, k_dX, B_dX, ok_X F_dX⟩
    have DZ : Dd P w K mg base dZ (spDeed C any2 gZ) := ⟨_, _, by decide, k_dZ, B_dZ, ok_Z F_dZ TM⟩
    have DD := deeds_mk (C := C) mdD MdD DA DS DH DV DN DC DT DU DR DL DE DG DI DO DF DY DX DZ
    have KHin : Kn P w K mg base 1 "what_hinders" ["machine", "sign"] (spHin C) := ⟨_, _, m_fHin, k_fHin, B_fHin, ok_hin F_fHin TM TS DD⟩
    have KRun : Kn P w K mg base 6 "run" ["machine", "steps"] (spRun C) := ⟨_, _, m_fRun, k_fRun, B_fRun, ok_run F_fRun TM TS DD KHin⟩
    have KTk : Km P w K mg base 1 C "take" ["self", "most"] (spTk C) := ⟨clC, _, _, m_fTk, B_fTk, ok_tk F_fTk TM TB⟩
    have KLk : Km P w K mg base 2 C "look" ["self", "place", "wide"] (spLook C) := ⟨clC, _, _, m_fLk, B_fLk, ok_look F_fLk TM F_fLW B_fLW m_fLW⟩
    have KAL : Kn P w K mg base 3 "answer_look" ["machine", "reader"] (spTail K C CR 7) := ⟨_, _, m_fAL, k_fAL, B_fAL, ok_al F_fAL RM KLk⟩
    have KAW : Kn P w K mg base 3 "answer_words" ["machine", "reader"] (spTail K C CR 1) := ⟨_, _, m_fAW, k_fAW, B_fAW, GAW⟩
    have KAO : Kn P w K mg base 5 "answer_orders" ["machine", "reader"] (spTail K C CR 2) := ⟨_, _, m_fAO, k_fAO, B_fAO, GAO⟩
    have KAT : Kn P w K mg base 3 "answer_tape" ["machine", "reader"] (spTail K C CR 3) := ⟨_, _, m_fAT, k_fAT, B_fAT, GAT⟩
    have KSA : Km P w K mg base 1 C "start_at" ["self", "place"] (spSA C) := ⟨clC, _, _, m_fSA, B_fSA, ok_start F_fSA TM⟩
    have GCall := ok_call F_fCall TM TC RM m_fBegin B_fBegin (ok_begin F_fBegin TM) m_fRg B_fRg (ok_regs F_fRg TM TB F_fBits B_fBits m_fBits) KAW KAO KAT KSA KRun KTk KAL
    have GOf := ok_of (by decide) F_fOf TM TR m_fRI mCR F_fRI B_fRI F_fMore B_fMore m_fMore k_fCall B_fCall m_fCall GCall
    exact ok_top (by decide) F_fTop m_fInit mC B_fInit GInit k_fOf B_fOf m_fOf GOf
  exact ⟨_, fun s us hu => match us, hu with | [_], _ => .of_eq rfl, fun base _ _ => fin base⟩
end My
open PySem PySem.W PyProof.Rows
set_option maxRecDepth 100000 in
set_option maxHeartbeats 0 in
theorem PySem.Challenge.cw_oldmachine_s01_answers_holds : PySem.Challenge.rw_oldmachine_s01_answers.Holds := by
  w_on; k_headS; (case hw => exact ⟨[.list [.int 0]], by decide +kernel, by decide +kernel⟩)
  k_fillS
  refine My.walk_specX (r := PySem.Challenge.rw_oldmachine_s01_answers) (k := 9) (ps := ["calls"]) (sp := My.spTop) (by decide +kernel) rfl rfl ⟨rfl, by decide, by decide⟩ (fun w h Y => PySem.W.kIn_of Y) ?F ?S
  case F =>
    intro w mg fa h Y KX G hmg
    refine' My.all_mk KX G hmg ?aC ?pgC ?hdC ?poC ?saC ?mkC ?kcC ?nC_short_words ?nC_bits_between ?nC_accumulator ?nC_multiplier ?nC_next_place ?nC_tape ?nC_printed ?nC_last_printed ?nC_stopped ?aCR ?pgCR ?hdCR ?poCR ?saCR ?mkCR ?kcCR ?nCR_numbers ?nCR_position ?aCN ?xCN ?g_SPACE ?g_LINE_END ?g_DIGIT_ZERO ?g_DIGIT_NINE ?g_MOST_DIGITS ?g_NUMBERS_BELOW ?g_SIGN_WEIGHT ?g_REFUSED ?g_PLACES ?g_PAIRS ?g_WORDS_BELOW ?g_LONGEST_TEXT ?g_LONGEST_PIECE ?g_TAPE_SIGNS_BELOW ?g_LONGEST_TAPE ?g_BEGIN ?g_WORDS ?g_ORDERS ?g_TAPE ?g_START ?g_SHORT_WIDTH ?g_LONG_WIDTH ?g_ACCUMULATOR_WIDTH ?g_MOST_TAKEN ?g_LOWER_WIDTH ?g_MOST_STEPS ?g_MOST_UNTAKEN ?g_ALL_DONE ?g_STOPPED ?g_NO_SIGN ?g_NO_ORDER ?g_TOO_MUCH_PRINTED ?g_RUN ?g_TAKE ?g_LOOK ?g_REGISTERS ?g_SIGNS ?g_SHORT_ENDING ?g_LONG_ENDING ?b_len ?b_enumerate ?b_ord ?b_max ?b_range ?a_fProg ?l_fProg ?c_fProg ?k_fProg ?a_fSplit ?l_fSplit ?c_fSplit ?k_fSplit ?a_fOrd ?l_fOrd ?c_fOrd ?k_fOrd ?a_fSign ?l_fSign ?c_fSign ?k_fSign ?a_fNum ?l_fNum ?c_fNum ?k_fNum ?a_fBit ?l_fBit ?c_fBit ?k_fBit ?a_fInit ?i_fInit ?l_fInit ?c_fInit ?k_fInit ?a_fBegin ?i_fBegin ?l_fBegin ?c_fBegin ?k_fBegin ?a_fPW ?i_fPW ?l_fPW ?c_fPW ?k_fPW ?a_fPO ?i_fPO ?l_fPO ?c_fPO ?k_fPO ?a_fPS ?i_fPS ?l_fPS ?c_fPS ?k_fPS ?a_fLT ?i_fLT ?l_fLT ?c_fLT ?k_fLT ?a_fSA ?i_fSA ?l_fSA ?c_fSA ?k_fSA ?a_fHave ?l_fHave ?c_fHave ?k_fHave ?a_fBelow ?l_fBelow ?c_fBelow ?k_fBelow ?a_fRI ?i_fRI ?l_fRI ?c_fRI ?k_fRI ?a_fMore ?i_fMore ?l_fMore ?c_fMore ?k_fMore ?a_fNext ?i_fNext ?l_fNext ?c_fNext ?k_fNext ?a_fRow ?i_fRow ?l_fRow ?c_fRow ?k_fRow ?a_fTop ?l_fTop ?c_fTop ?k_fTop ?a_fOf ?l_fOf ?c_fOf ?k_fOf ?a_fCall ?l_fCall ?c_fCall ?k_fCall ?a_fAW ?l_fAW ?c_fAW ?k_fAW ?a_fAO ?l_fAO ?c_fAO ?k_fAO ?a_fAT ?l_fAT ?c_fAT ?k_fAT ?a_fBits ?l_fBits ?c_fBits ?k_fBits ?a_fWS ?l_fWS ?c_fWS ?k_fWS ?a_fLW ?i_fLW ?l_fLW ?c_fLW ?k_fLW ?a_fPL ?i_fPL ?l_fPL ?c_fPL ?k_fPL ?a_fTk ?i_fTk ?l_fTk ?c_fTk ?k_fTk ?a_fLk ?i_fLk ?l_fLk ?c_fLk ?k_fLk ?a_fRg ?i_fRg ?l_fRg ?c_fRg ?k_fRg ?a_fPlc ?l_fPlc ?c_fPlc ?k_fPlc ?a_fIsl ?l_fIsl ?c_fIsl ?k_fIsl ?a_fNum2 ?l_fNum2 ?c_fNum2 ?k_fNum2 ?a_fPut ?l_fPut ?c_fPut ?k_fPut ?a_fUp ?l_fUp ?c_fUp ?k_fUp ?a_fAcc ?l_fAcc ?c_fAcc ?k_fAcc ?a_fShp ?l_fShp ?c_fShp ?k_fShp ?a_dA ?l_dA ?c_dA ?k_dA ?a_dS ?l_dS ?c_dS ?k_dS ?a_dH ?l_dH ?c_dH ?k_dH ?a_dV ?l_dV ?c_dV ?k_dV ?a_dN ?l_dN ?c_dN ?k_dN ?a_dC ?l_dC ?c_dC ?k_dC ?a_dT ?l_dT ?c_dT ?k_dT ?a_dU ?l_dU ?c_dU ?k_dU ?a_dR ?l_dR ?c_dR ?k_dR ?a_dL ?l_dL ?c_dL ?k_dL ?a_dE ?l_dE ?c_dE ?k_dE ?a_dG ?l_dG ?c_dG ?k_dG ?a_dI ?l_dI ?c_dI ?k_dI ?a_dO ?l_dO ?c_dO ?k_dO ?a_dF ?l_dF ?c_dF ?k_dF ?a_dY ?l_dY ?c_dY ?k_dY ?a_dX ?l_dX ?c_dX ?k_dX ?a_dZ ?l_dZ ?c_dZ ?k_dZ ?a_fRun ?l_fRun ?c_fRun ?k_fRun ?a_fHin ?l_fHin ?c_fHin ?k_fHin ?a_fAL ?l_fAL ?c_fAL ?k_fAL ?adD ?ldD ?e0_dD ?e1_dD ?e2_dD ?e3_dD ?e4_dD ?e5_dD ?e6_dD ?e7_dD ?e8_dD ?e9_dD ?e10_dD ?e11_dD ?e12_dD ?e13_dD ?e14_dD ?e15_dD ?e16_dD ?e17_dD ?ydD
    (case aC => k_is); (case pgC => k_is); (case hdC => k_is); (case poC => k_is); (case saC => k_is); (case mkC => k_is)
    (case kcC => k_is); (case nC_short_words => k_is); (case nC_bits_between => k_is); (case nC_accumulator => k_is); (case nC_multiplier => k_is); (case nC_next_place => k_is)
    (case nC_tape => k_is); (case nC_printed => k_is); (case nC_last_printed => k_is); (case nC_stopped => k_is); (case aCR => k_is); (case pgCR => k_is)
    (case hdCR => k_is); (case poCR => k_is); (case saCR => k_is); (case mkCR => k_is); (case kcCR => k_is); (case nCR_numbers => k_is)
    (case nCR_position => k_is); (case aCN => k_is); (case xCN => k_exc); (case g_SPACE => k_is); (case g_LINE_END => k_is); (case g_DIGIT_ZERO => k_is)
    (case g_DIGIT_NINE => k_is); (case g_MOST_DIGITS => k_is); (case g_NUMBERS_BELOW => k_is); (case g_SIGN_WEIGHT => k_is); (case g_REFUSED => k_is); (case g_PLACES => k_is)
    (case g_PAIRS => k_is); (case g_WORDS_BELOW => k_is); (case g_LONGEST_TEXT => k_is); (case g_LONGEST_PIECE => k_is); (case g_TAPE_SIGNS_BELOW => k_is); (case g_LONGEST_TAPE => k_is)
    (case g_BEGIN => k_is); (case g_WORDS => k_is); (case g_ORDERS => k_is); (case g_TAPE => k_is); (case g_START => k_is); (case g_SHORT_WIDTH => k_is)
    (case g_LONG_WIDTH => k_is); (case g_ACCUMULATOR_WIDTH => k_is); (case g_MOST_TAKEN => k_is); (case g_LOWER_WIDTH => k_is); (case g_MOST_STEPS => k_is); (case g_MOST_UNTAKEN => k_is)
    (case g_ALL_DONE => k_is); (case g_STOPPED => k_is); (case g_NO_SIGN => k_is); (case g_NO_ORDER => k_is); (case g_TOO_MUCH_PRINTED => k_is); (case g_RUN => k_is)
    (case g_TAKE => k_is); (case g_LOOK => k_is); (case g_REGISTERS => k_is); (case g_SIGNS => k_is); (case g_SHORT_ENDING => k_is); (case g_LONG_ENDING => k_is)
    (case b_len => k_is); (case b_enumerate => k_is); (case b_ord => k_is); (case b_max => k_is); (case b_range => k_is); (case a_fProg => k_is)
    (case l_fProg => k_is); (case c_fProg => k_is); (case k_fProg => k_is); (case a_fSplit => k_is); (case l_fSplit => k_is); (case c_fSplit => k_is)
    (case k_fSplit => k_is); (case a_fOrd => k_is); (case l_fOrd => k_is); (case c_fOrd => k_is); (case k_fOrd => k_is); (case a_fSign => k_is)
    (case l_fSign => k_is); (case c_fSign => k_is); (case k_fSign => k_is); (case a_fNum => k_is); (case l_fNum => k_is); (case c_fNum => k_is)
    (case k_fNum => k_is); (case a_fBit => k_is); (case l_fBit => k_is); (case c_fBit => k_is); (case k_fBit => k_is); (case a_fInit => k_is)
    (case i_fInit => k_is); (case l_fInit => k_is); (case c_fInit => k_is); (case k_fInit => k_is); (case a_fBegin => k_is); (case i_fBegin => k_is)
    (case l_fBegin => k_is); (case c_fBegin => k_is); (case k_fBegin => k_is); (case a_fPW => k_is); (case i_fPW => k_is); (case l_fPW => k_is)
    (case c_fPW => k_is); (case k_fPW => k_is); (case a_fPO => k_is); (case i_fPO => k_is); (case l_fPO => k_is); (case c_fPO => k_is)
    (case k_fPO => k_is); (case a_fPS => k_is); (case i_fPS => k_is); (case l_fPS => k_is); (case c_fPS => k_is); (case k_fPS => k_is)
    (case a_fLT => k_is); (case i_fLT => k_is); (case l_fLT => k_is); (case c_fLT => k_is); (case k_fLT => k_is); (case a_fSA => k_is)
    (case i_fSA => k_is); (case l_fSA => k_is); (case c_fSA => k_is); (case k_fSA => k_is); (case a_fHave => k_is); (case l_fHave => k_is)
    (case c_fHave => k_is); (case k_fHave => k_is); (case a_fBelow => k_is); (case l_fBelow => k_is); (case c_fBelow => k_is); (case k_fBelow => k_is)
    (case a_fRI => k_is); (case i_fRI => k_is); (case l_fRI => k_is); (case c_fRI => k_is); (case k_fRI => k_is); (case a_fMore => k_is)
    (case i_fMore => k_is); (case l_fMore => k_is); (case c_fMore => k_is); (case k_fMore => k_is); (case a_fNext => k_is); (case i_fNext => k_is)
    (case l_fNext => k_is); (case c_fNext => k_is); (case k_fNext => k_is); (case a_fRow => k_is); (case i_fRow => k_is); (case l_fRow => k_is)
    (case c_fRow => k_is); (case k_fRow => k_is); (case a_fTop => k_is); (case l_fTop => k_is); (case c_fTop => k_is); (case k_fTop => k_is)
    (case a_fOf => k_is); (case l_fOf => k_is); (case c_fOf => k_is); (case k_fOf => k_is); (case a_fCall => k_is); (case l_fCall => k_is)
    (case c_fCall => k_is); (case k_fCall => k_is); (case a_fAW => k_is); (case l_fAW => k_is); (case c_fAW => k_is); (case k_fAW => k_is)
    (case a_fAO => k_is); (case l_fAO => k_is); (case c_fAO => k_is); (case k_fAO => k_is); (case a_fAT => k_is); (case l_fAT => k_is)
    (case c_fAT => k_is); (case k_fAT => k_is); (case a_fBits => k_is); (case l_fBits => k_is); (case c_fBits => k_is); (case k_fBits => k_is)
    (case a_fWS => k_is); (case l_fWS => k_is); (case c_fWS => k_is); (case k_fWS => k_is); (case a_fLW => k_is); (case i_fLW => k_is)
    (case l_fLW => k_is); (case c_fLW => k_is); (case k_fLW => k_is); (case a_fPL => k_is); (case i_fPL => k_is); (case l_fPL => k_is)
    (case c_fPL => k_is); (case k_fPL => k_is); (case a_fTk => k_is); (case i_fTk => k_is); (case l_fTk => k_is); (case c_fTk => k_is)
    (case k_fTk => k_is); (case a_fLk => k_is); (case i_fLk => k_is); (case l_fLk => k_is); (case c_fLk => k_is); (case k_fLk => k_is)
    (case a_fRg => k_is); (case i_fRg => k_is); (case l_fRg => k_is); (case c_fRg => k_is); (case k_fRg => k_is); (case a_fPlc => k_is)
    (case l_fPlc => k_is); (case c_fPlc => k_is); (case k_fPlc => k_is); (case a_fIsl => k_is); (case l_fIsl => k_is); (case c_fIsl => k_is)
    (case k_fIsl => k_is); (case a_fNum2 => k_is); (case l_fNum2 => k_is); (case c_fNum2 => k_is); (case k_fNum2 => k_is); (case a_fPut => k_is)
    (case l_fPut => k_is); (case c_fPut => k_is); (case k_fPut => k_is); (case a_fUp => k_is); (case l_fUp => k_is); (case c_fUp => k_is)
    (case k_fUp => k_is); (case a_fAcc => k_is); (case l_fAcc => k_is); (case c_fAcc => k_is); (case k_fAcc => k_is); (case a_fShp => k_is)
    (case l_fShp => k_is); (case c_fShp => k_is); (case k_fShp => k_is); (case a_dA => k_is); (case l_dA => k_is); (case c_dA => k_is)
    (case k_dA => k_is); (case a_dS => k_is); (case l_dS => k_is); (case c_dS => k_is); (case k_dS => k_is); (case a_dH => k_is)
    (case l_dH => k_is); (case c_dH => k_is); (case k_dH => k_is); (case a_dV => k_is); (case l_dV => k_is); (case c_dV => k_is)
    (case k_dV => k_is); (case a_dN => k_is); (case l_dN => k_is); (case c_dN => k_is); (case k_dN => k_is); (case a_dC => k_is)
    (case l_dC => k_is); (case c_dC => k_is); (case k_dC => k_is); (case a_dT => k_is); (case l_dT => k_is); (case c_dT => k_is)
    (case k_dT => k_is); (case a_dU => k_is); (case l_dU => k_is); (case c_dU => k_is); (case k_dU => k_is); (case a_dR => k_is)
    (case l_dR => k_is); (case c_dR => k_is); (case k_dR => k_is); (case a_dL => k_is); (case l_dL => k_is); (case c_dL => k_is)
    (case k_dL => k_is); (case a_dE => k_is); (case l_dE => k_is); (case c_dE => k_is); (case k_dE => k_is); (case a_dG => k_is)
    (case l_dG => k_is); (case c_dG => k_is); (case k_dG => k_is); (case a_dI => k_is); (case l_dI => k_is); (case c_dI => k_is)
    (case k_dI => k_is); (case a_dO => k_is); (case l_dO => k_is); (case c_dO => k_is); (case k_dO => k_is); (case a_dF => k_is)
    (case l_dF => k_is); (case c_dF => k_is); (case k_dF => k_is); (case a_dY => k_is); (case l_dY => k_is); (case c_dY => k_is)
    (case k_dY => k_is); (case a_dX => k_is); (case l_dX => k_is); (case c_dX => k_is); (case k_dX => k_is); (case a_dZ => k_is)
    (case l_dZ => k_is); (case c_dZ => k_is); (case k_dZ => k_is); (case a_fRun => k_is); (case l_fRun => k_is); (case c_fRun => k_is)
    (case k_fRun => k_is); (case a_fHin => k_is); (case l_fHin => k_is); (case c_fHin => k_is); (case k_fHin => k_is); (case a_fAL => k_is)
    (case l_fAL => k_is); (case c_fAL => k_is); (case k_fAL => k_is); (case adD => k_is); (case ldD => k_is); (case e0_dD => rfl)
    (case e1_dD => rfl); (case e2_dD => rfl); (case e3_dD => rfl); (case e4_dD => rfl); (case e5_dD => rfl); (case e6_dD => rfl)
    (case e7_dD => rfl); (case e8_dD => rfl); (case e9_dD => rfl); (case e10_dD => rfl); (case e11_dD => rfl); (case e12_dD => rfl)
    (case e13_dD => rfl); (case e14_dD => rfl); (case e15_dD => rfl); (case e16_dD => rfl); (case e17_dD => rfl); (case ydD => rfl)
  case S =>
    intro K H xs a hO hwi hask hx
    cases hx with
    | cons h1 h2 =>
      cases h2
      cases h1 with
      | lst hs ha =>
        have e := L2.ints_dw a.1 _ ha
        subst e
        exact ⟨_, a.1, rfl, My.sqF_of hO hs, hask, fun H' p hp => .lst (L2.SqL.of hp) (L2.dw_ints _)⟩
end
