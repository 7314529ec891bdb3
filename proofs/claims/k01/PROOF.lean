import PyProof.Rows.All
import Wide.All
import OpenK.AllK
import Wide.FinOn
import Lean
import PyProof.EqAt
import PyProof.EqKinds
import PyProof.TupleCall
import PySem.Challenge.RW_tickbook_k01_one_alarm
set_option Elab.async false
set_option linter.all false
set_option maxRecDepth 100000
section
-- CHANGE: your row's module here, as the last of these rows
/-! THE HAND LAYER, for ints, bools, texts, own classes, DICTS (int and text keys), calls, loops. Paste it whole ahead of your own text; what your proof does not reach may be deleted. -/
namespace L2
open PySem PySem.Spec PyProof.Rows

/-- a key: an int or a str -/
abbrev Key := Sum Int Str
def keyIs : Key → Value → Bool
  | .inl k, v => Value.isInt k v
  | .inr x, v => Value.isStrOf x v
def keyH (w : World) : Key → Int
  | .inl k => hashInt k
  | .inr x => hashStr w x
theorem keyIs_shape : ∀ {k : Key} {v : Value}, keyIs k v = true → (∃ i t, k = Sum.inl i ∧ v = Value.int i t) ∨ (∃ x t, k = Sum.inr x ∧ v = Value.str x t)
  | .inl i, v, h => by
    obtain ⟨t, e⟩ := Value.isInt_shape (k := i) (v := v) h
    exact .inl ⟨i, t, rfl, e⟩
  | .inr x, v, h => by
    obtain ⟨t, e⟩ := Value.isStrOf_shape (x := x) (v := v) h
    exact .inr ⟨x, t, rfl, e⟩
theorem keyIs_int (i : Int) (t : Tok) : keyIs (.inl i) (.int i t) = true := by simp [keyIs, Value.isInt]
theorem keyIs_str (x : Str) (t : Tok) : keyIs (.inr x) (.str x t) = true := by simp [keyIs, Value.isStrOf]
theorem key_ll (a b : Int) : decide ((Sum.inl a : Key) = Sum.inl b) = (a == b) := by
  by_cases e : a = b
  · subst e; simp
  · have h : ¬ (Sum.inl a : Key) = Sum.inl b := fun q => e (Sum.inl.inj q)
    rw [decide_eq_false h]
    exact (beq_eq_false_iff_ne.mpr e).symm
theorem key_rr (a b : Str) : decide ((Sum.inr a : Key) = Sum.inr b) = decide (a = b) := by
  by_cases e : a = b
  · subst e; simp
  · have h : ¬ (Sum.inr a : Key) = Sum.inr b := fun q => e (Sum.inr.inj q)
    rw [decide_eq_false h, decide_eq_false e]
theorem key_lr (a : Int) (b : Str) : decide ((Sum.inl a : Key) = Sum.inr b) = false := decide_eq_false (fun q => nomatch q)
theorem key_rl (a : Str) (b : Int) : decide ((Sum.inr a : Key) = Sum.inl b) = false := decide_eq_false (fun q => nomatch q)

def mixKind (prog : Program) (w : World) : PySem.KeyKind prog w Key where
  is := keyIs
  hash := keyH w
  inj := fun v a b ha hb => by
    rcases keyIs_shape ha with ⟨i, t, rfl, rfl⟩ | ⟨x, t, rfl, rfl⟩
    · rcases keyIs_shape hb with ⟨j, u, rfl, e⟩ | ⟨y, u, rfl, e⟩
      · injection e with e1 _; rw [e1]
      · exact nomatch e
    · rcases keyIs_shape hb with ⟨j, u, rfl, e⟩ | ⟨y, u, rfl, e⟩
      · exact nomatch e
      · injection e with e1 _; rw [e1]
  byValue := fun k v h => by
    rcases keyIs_shape h with ⟨i, t, rfl, rfl⟩ | ⟨x, t, rfl, rfl⟩ <;> rfl
  pyHash := fun hv h => by
    rcases keyIs_shape hv with ⟨i, t, rfl, rfl⟩ | ⟨x, t, rfl, rfl⟩
    · exact wpAny_pyHash_int h
    · exact wpAny_pyHash_str h
  eqBool := fun hu hv h => by
    rcases keyIs_shape hu with ⟨i, t, rfl, rfl⟩ | ⟨x, t, rfl, rfl⟩
    · rcases keyIs_shape hv with ⟨j, u, rfl, rfl⟩ | ⟨y, u, rfl, rfl⟩
      · rw [key_ll] at h; exact wpAny_eqBool_int h
      · rw [key_lr] at h; exact SeqAt.EqAt.int_str i t y u _ _ _ _ h
    · rcases keyIs_shape hv with ⟨j, u, rfl, rfl⟩ | ⟨y, u, rfl, rfl⟩
      · rw [key_rl] at h; exact SeqAt.EqAt.str_int x t j u _ _ _ _ h
      · rw [key_rr] at h; exact wpAny_eqBool_str h
  «strs» := fun k x t v h => by
    rcases keyIs_shape h with ⟨i, u, rfl, e⟩ | ⟨y, u, rfl, e⟩
    · exact nomatch e
    · injection e with e1 _
      subst e1
      cases v <;> rfl

theorem mixKind_int (prog : Program) (w : World) (i : Int) (t : Tok) : (mixKind prog w).is (.inl i) (.int i t) = true := keyIs_int i t
theorem mixKind_str (prog : Program) (w : World) (x : Str) (t : Tok) : (mixKind prog w).is (.inr x) (.str x t) = true := keyIs_str x t
end L2

namespace L2
open PySem PySem.Spec PyProof.Rows

/-- a value, without the heap -/
inductive V where
  | non | bl (b : Bool) | int (i : Int) | str (x : Str) | byt (b : Array UInt8) | flt (b : UInt64) | ref (a : Addr) | ty (n : String)
  deriving DecidableEq

def RelV : V → Value → Prop
  | .non, u => u = Value.none
  | .bl b, u => u = Value.bool b
  | .int i, u => ∃ t, u = Value.int i t
  | .str x, u => ∃ t, u = Value.str x t
  | .byt b, u => ∃ t, u = Value.bytes b t
  | .flt b, u => ∃ t, u = Value.float b t
  | .ref a, u => u = Value.ref a
  | .ty n, u => u = Value.type n

abbrev Vals : List V → List Value → Prop := Paired RelV
theorem Vals.length {xs : List V} {us : List Value} (r : Vals xs us) : xs.length = us.length := Paired.length r
theorem Vals.get : ∀ {xs : List V} {us : List Value} {i : Nat} {x : V}, Vals xs us → xs[i]? = some x → ∃ u, us[i]? = some u ∧ RelV x u
  | _, _, _, _, .nil, e => by simp at e
  | _, _, 0, _, .cons r _, e => by simp at e; subst e; exact ⟨_, rfl, r⟩
  | _, _, i + 1, x, .cons _ t, e => by
    obtain ⟨u, h1, h2⟩ := Vals.get (i := i) (x := x) t (by simpa using e)
    exact ⟨u, by simpa using h1, h2⟩
theorem Vals.set {x : V} {u : Value} (r : RelV x u) : ∀ {xs : List V} {us : List Value} (i : Nat), Vals xs us → Vals (xs.set i x) (us.set i u)
  | _, _, _, .nil => .nil
  | _, _, 0, .cons _ t => .cons r t
  | _, _, i + 1, .cons q t => .cons q (Vals.set r i t)
theorem Vals.append : ∀ {xs ys : List V} {us ws : List Value}, Vals xs us → Vals ys ws → Vals (xs ++ ys) (us ++ ws)
  | _, _, _, _, .nil, s => s
  | _, _, _, _, .cons r t, s => .cons r (Vals.append t s)
theorem Vals.take : ∀ {xs : List V} {us : List Value} (n : Nat), Vals xs us → Vals (xs.take n) (us.take n)
  | _, _, 0, _ => .nil
  | _, _, _ + 1, .nil => .nil
  | _, _, n + 1, .cons r t => .cons r (Vals.take n t)
theorem Vals.drop : ∀ {xs : List V} {us : List Value} (n : Nat), Vals xs us → Vals (xs.drop n) (us.drop n)
  | _, _, 0, r => r
  | _, _, _ + 1, .nil => .nil
  | _, _, n + 1, .cons _ t => Vals.drop n t
theorem Vals.none_of : ∀ {xs : List V} {us : List Value} {i : Nat}, Vals xs us → xs[i]? = none → us[i]? = none := fun {xs us i} r e => by
  have h1 := r.length
  have h2 : xs.length ≤ i := List.getElem?_eq_none_iff.mp e
  exact List.getElem?_eq_none_iff.mpr (by omega)

def RelO : Option V → Option Value → Prop
  | some v, some u => RelV v u
  | none, none => True
  | _, _ => False
def KV {κ : Type} : List (κ × V) → List (κ × Value) → Prop := Paired fun (p : κ × V) (q : κ × Value) => p.1 = q.1 ∧ RelV p.2 q.2

/-- a key of a dict (00_mix): an int or a text -/
def kV : Key → V
  | .inl i => .int i
  | .inr x => .str x

/-- what stands at a tracked address -/
inductive HO where
  /-- a list -/
  | lst (xs : List V)
  /-- a tuple (never changes) -/
  | tup (xs : List V)
  /-- a dict whose keys are ints and texts; one whose keys are tuples of ints and texts (the empty one is both) -/
  | dK (kvs : List (Key × V)) | dT (kvs : List (List Key × V))
  /-- a set of ints: its members, its size -/
  | set (S : Int → Bool) (n : Nat)
  /-- an instance of the class at C, its dict at dx, its attributes -/
  | ins (C dx : Addr) (fs : List (Str × V))
  /-- the dict of the instance at x -/
  | own (x : Addr)
  /-- the dict of an exception -/
  | xd (fs : List (Str × V))
  /-- a bound method, f of x -/
  | met (f x : Addr)
  /-- a range object lo, lo + 1, .. below hi -/
  | rng (lo hi : Int)
  /-- a thing that is known to the object (the script; a dict while a loop walks it): read, never written while it is so -/
  | frz (o : Obj) (u : HO)
  /-- a code object's table -/
  | tbl (ps : Array Value)
  /-- any other thing, by what is true of its one object (a def of one's own: SetO a S n := HO.ext fun h => ..) -/
  | ext (φ : Heap → Prop)

abbrev Hp := Addr → Option HO
def upd (H : Hp) (a : Addr) (o : HO) : Hp := fun b => if b = a then some o else H b
theorem upd_same {H : Hp} {a : Addr} {o : HO} : upd H a o a = some o := by unfold upd; rw [if_pos rfl]
theorem upd_ne {H : Hp} {a b : Addr} {o : HO} (h : b ≠ a) : upd H a o b = H b := by unfold upd; rw [if_neg h]
/-- two objects of different content stand apart -/
theorem ne_of {H : Hp} {a b : Addr} {o u : HO} (h : H a = some o) (h' : H b = some u) (d : o ≠ u) : a ≠ b := by
  intro e; subst e; rw [h] at h'; exact d (Option.some.inj h')
theorem ne_of_none {H : Hp} {a b : Addr} {o : HO} (h : H a = some o) (h' : H b = none) : a ≠ b := by
  intro e; subst e; rw [h] at h'; cases h'

section
variable (P : Program) (w : World)
def ObjOk (H : Hp) (h : Heap) (a : Addr) : HO → Prop
  | .lst xs => xs.length ≤ sizeLine ∧ ∃ (its : List Value) (n : Nat), Vals xs its ∧ h.get? a = some { cls := .type "list", data := .seq its.toArray n }
  | .tup xs => xs.length ≤ sizeLine ∧ ∃ its : List Value, Vals xs its ∧ IsTup h a its.toArray
  | .dK kvs => kvs.length ≤ sizeLine ∧ (a == sysModules) = false ∧ ∃ vs, KV kvs vs ∧ h.DictOf (mixKind P w) a vs
  | .dT kvs => kvs.length ≤ sizeLine ∧ (a == sysModules) = false ∧ ∃ xs : List (List Key × Addr × Value),
      Paired (fun (p : List Key × V) (q : List Key × Addr × Value) => p.1 = q.1 ∧ H q.2.1 = some (.tup (p.1.map kV)) ∧ RelV p.2 q.2.2) kvs xs ∧
      ∃ o es ep, h.get? a = some o ∧ o.ExactDict ∧ o.data = .dict es ep ∧ es.toList = xs.map (entryOfKey (tupleKind (mixKind P w))) ∧ (xs.map (·.1)).Nodup
  | .set S n => h.SetOf (intKind P w) a S n
  | .ins C dx fs => H dx = some (.own a) ∧ fs.length ≤ 1000 ∧ dx ≠ a ∧ h.get? a = some (PySem.W.instObj C dx) ∧
      ∃ mA, h.Ns1 dx mA ∧ (∀ f, RelO (fs.lookup f) (mA f)) ∧ PySem.Within mA (fs.map (·.1))
  | .own _ => ∃ o, h.get? a = some o
  | .xd fs => ∃ mA, h.Ns1 a mA ∧ ∀ f, RelO (fs.lookup f) (mA f)
  | .rng lo hi => ∃ t u v, h.get? a = some { cls := .type "range", data := .fields #[.int lo t, .int hi u, .int 1 v] }
  | .frz o u => h.get? a = some o ∧ ObjOk H h a u
  | .tbl ps => h.get? a = some { cls := .none, data := .fields ps }
  | .met f x => h.get? a = some (PySem.W.methodObj (.ref f) (.ref x))
  | .ext φ => φ h ∧ (∃ o, h.get? a = some o) ∧ ∀ h1 h2 : Heap, φ h1 → (∀ o, h1.get? a = some o → h2.get? a = some o) → φ h2
/-- the abstract heap is held -/
def HOk (H : Hp) (h : Heap) : Prop := ∀ a o, H a = some o → ObjOk P w H h a o
end

section
variable {P : Program} {w : World} {H H' : Hp} {h h' : Heap} {a : Addr} {o : HO}
theorem ObjOk.lt (x : ObjOk P w H h a o) : a < h.objs.size := by
  cases o with
  | lst xs => obtain ⟨_, _, _, _, e⟩ := x; exact Heap.lt_size e
  | tup xs => obtain ⟨_, _, _, p⟩ := x; exact p.lt
  | dK kvs => obtain ⟨_, _, _, _, o, _, _, e, _⟩ := x; exact Heap.lt_size e
  | dT kvs => obtain ⟨_, _, _, _, o, _, _, e, _⟩ := x; exact Heap.lt_size e
  | set S n => obtain ⟨o, _, _, _, e, _⟩ := x; exact Heap.lt_size e
  | ins C dx fs => obtain ⟨_, _, _, e, _⟩ := x; exact Heap.lt_size e
  | own y => obtain ⟨_, e⟩ := x; exact Heap.lt_size e
  | xd fs => obtain ⟨_, ⟨_, _, _, e, _⟩, _⟩ := x; exact Heap.lt_size e
  | rng lo hi => obtain ⟨_, _, _, e⟩ := x; exact Heap.lt_size e
  | frz ob u => obtain ⟨e, _⟩ := x; exact Heap.lt_size e
  | tbl ps => exact Heap.lt_size (show h.get? a = some _ from x)
  | met f y => exact Heap.lt_size (show h.get? a = some _ from x)
  | ext φ => obtain ⟨_, ⟨_, e⟩, _⟩ := x; exact Heap.lt_size e
theorem Paired.mapP {α β : Type} {F G : α → β → Prop} : ∀ {l₁ : List α} {l₂ : List β}, Paired F l₁ l₂ → (∀ a b, F a b → G a b) → Paired G l₁ l₂
  | _, _, .nil, _ => .nil
  | _, _, .cons r t, f => .cons (f _ _ r) (Paired.mapP t f)
/-- what an object's description leans on: its own object, its own dict, the tuples -/
theorem ObjOk.stay (x : ObjOk P w H h a o) (k : ∀ b u, (b = a ∨ H b = some (.own a)) → h.get? b = some u → h'.get? b = some u)
    (ho : ∀ b, H b = some (.own a) → H' b = some (.own a)) (ht : ∀ b xs, H b = some (.tup xs) → H' b = some (.tup xs)) : ObjOk P w H' h' a o := by
  induction o with
  | lst xs => obtain ⟨z, its, n, r, e⟩ := x; exact ⟨z, its, n, r, k _ _ (.inl rfl) e⟩
  | tup xs => obtain ⟨z, its, r, ob, e, c⟩ := x; exact ⟨z, its, r, ob, k _ _ (.inl rfl) e, c⟩
  | dK kvs => obtain ⟨z, y, vs, r, ob, es, ep, e, c⟩ := x; exact ⟨z, y, vs, r, ob, es, ep, k _ _ (.inl rfl) e, c⟩
  | dT kvs =>
    obtain ⟨z, y, xs, r, ob, es, ep, e, c⟩ := x
    exact ⟨z, y, xs, Paired.mapP r fun p q z => ⟨z.1, ht _ _ z.2.1, z.2.2⟩, ob, es, ep, k _ _ (.inl rfl) e, c⟩
  | set S n => obtain ⟨ob, es, ep, t, e, c⟩ := x; exact ⟨ob, es, ep, t, k _ _ (.inl rfl) e, c⟩
  | ins C dx fs =>
    obtain ⟨d, z, ne, e, mA, ⟨od, es, ep, e2, c⟩, r⟩ := x
    exact ⟨ho _ d, z, ne, k _ _ (.inl rfl) e, mA, ⟨od, es, ep, k _ _ (.inr d) e2, c⟩, r⟩
  | own y => obtain ⟨ob, e⟩ := x; exact ⟨ob, k _ _ (.inl rfl) e⟩
  | xd fs => obtain ⟨mA, ⟨od, es, ep, e, c⟩, r⟩ := x; exact ⟨mA, ⟨od, es, ep, k _ _ (.inl rfl) e, c⟩, r⟩
  | rng lo hi => obtain ⟨t, u, v, e⟩ := x; exact ⟨t, u, v, k _ _ (.inl rfl) e⟩
  | frz ob u ih => obtain ⟨e, q⟩ := x; exact ⟨k _ _ (.inl rfl) e, ih q⟩
  | tbl ps =>
    have e : h.get? a = some { cls := .none, data := .fields ps } := x
    show h'.get? a = some { cls := .none, data := .fields ps }
    exact k a _ (.inl rfl) e
  | met f y =>
    have e : h.get? a = some (PySem.W.methodObj (.ref f) (.ref y)) := x
    show h'.get? a = some (PySem.W.methodObj (.ref f) (.ref y))
    exact k a _ (.inl rfl) e
  | ext φ => obtain ⟨p, ⟨o, e⟩, st⟩ := x; exact ⟨st _ _ p fun o q => k _ _ (.inl rfl) q, ⟨o, k _ _ (.inl rfl) e⟩, st⟩
theorem HOk.lt (x : HOk P w H h) (e : H a = some o) : a < h.objs.size := (x a o e).lt
theorem HOk.fresh (x : HOk P w H h) (e : h.objs.size ≤ a) : H a = none := by
  cases q : H a with
  | none => rfl
  | some u => exact absurd (Nat.lt_of_lt_of_le (x.lt q) e) (Nat.lt_irrefl _)
/-- every object of the heap is kept -/
theorem HOk.kept (x : HOk P w H h) (k : ∀ b u, h.get? b = some u → h'.get? b = some u) : HOk P w H h' := fun a o e =>
  (x a o e).stay (fun b u _ q => k b u q) (fun _ q => q) fun _ _ q => q
/-- a new object is laid and tracked -/
theorem HOk.laid (x : HOk P w H h) (k : ∀ b u, h.get? b = some u → h'.get? b = some u) (hp : h.objs.size ≤ a) (new : ObjOk P w (upd H a o) h' a o) : HOk P w (upd H a o) h' := fun b u e => by
  have hn := x.fresh hp
  by_cases hb : b = a
  · subst hb; rw [upd_same] at e; cases e; exact new
  · rw [upd_ne hb] at e
    exact (x b u e).stay (fun c v _ q => k c v q) (fun c q => by rw [upd_ne (ne_of_none q hn)]; exact q) fun c xs q => by rw [upd_ne (ne_of_none q hn)]; exact q
end

/-- what may be read as u: it is u, or a known u -/
def Rd (H : Hp) (a : Addr) (u : HO) : Prop := H a = some u ∨ ∃ o, H a = some (.frz o u)
theorem Rd.of {H : Hp} {a : Addr} {u : HO} (h : H a = some u) : Rd H a u := .inl h
theorem Rd.ok {P : Program} {w : World} {H : Hp} {h : Heap} {a : Addr} {u : HO} (r : Rd H a u) (x : HOk P w H h) : ObjOk P w H h a u := by
  rcases r with r | ⟨o, r⟩
  · exact x a u r
  · obtain ⟨_, q⟩ := x a _ r
    exact q
/-- what may be written -/
def Mut : Option HO → Prop
  | some (.lst _) => True
  | some (.dK _) => True
  | some (.dT _) => True
  | some (.set _ _) => True
  | some (.ins _ _ _) => True
  | some (.ext _) => True
  | _ => False
section
variable {P : Program} {w : World} {H : Hp} {h h' : Heap} {x e : Addr} {o' : HO}
/-- the object at e is changed: x itself, or the dict of the instance x -/
theorem HOk.write (ok : HOk P w H h) (mu : Mut (H x)) (he : e = x ∨ H e = some (.own x)) (k : ∀ b u, b ≠ e → h.get? b = some u → h'.get? b = some u) (heo : ∃ u, h'.get? e = some u)
    (new : ObjOk P w (upd H x o') h' x o') : HOk P w (upd H x o') h' := fun b u q => by
  have nown : ∀ c y, H c = some (.own y) → c ≠ x := fun c y r z => by subst z; rw [r] at mu; exact mu
  have ntup : ∀ c xs, H c = some (.tup xs) → c ≠ x := fun c xs r z => by subst z; rw [r] at mu; exact mu
  by_cases hb : b = x
  · subst hb; rw [upd_same] at q; cases q; exact new
  · rw [upd_ne hb] at q
    by_cases hbe : b = e
    · have q' : H b = some (.own x) := by
        rcases he with z | z
        · exact absurd (hbe.trans z) hb
        · rw [hbe]; exact z
      rw [q] at q'; cases q'
      obtain ⟨v, hv⟩ := heo
      exact ⟨v, by rw [hbe]; exact hv⟩
    · refine (ok b u q).stay (fun c v hc r => k c v ?_ r) (fun c r => by rw [upd_ne (nown c b r)]; exact r) fun c xs r => by rw [upd_ne (ntup c xs r)]; exact r
      rcases hc with rfl | hc
      · exact hbe
      · rintro rfl
        rcases he with z | z
        · exact nown c b hc z
        · rw [hc] at z; cases z; exact hb rfl
end

/-! ### kept unless tracked; of the frames at fs (the callers') the slots may change (an exception that passes writes there); of the records at ex (iterators) nothing is said -/
structure Un (fs ex : List Addr) (H H' : Hp) (h h' : Heap) : Prop where
  keep : ∀ b o, h.get? b = some o → H b = none → b ∉ fs → b ∉ ex → h'.get? b = some o
  slot : ∀ b o, h.get? b = some o → H b = none → b ∈ fs → b ∉ ex → ∃ sl, h'.get? b = some { o with slots := sl }
  free : ∀ b o, h.get? b = some o → H b = none → b ∉ ex → H' b = none
  there : ∀ b o, h.get? b = some o → b ∉ ex → ∃ o', h'.get? b = some o'
  tups : ∀ b xs, H b = some (.tup xs) → H' b = some (.tup xs)
  frzs : ∀ b o u, H b = some (.frz o u) → H' b = some (.frz o u)
  tbls : ∀ b ps, H b = some (.tbl ps) → ∃ more, H' b = some (.tbl (ps ++ more))
section
variable {fs fs' ex ex' : List Addr} {H H1 H2 : Hp} {h h1 h2 h' : Heap} {a x e : Addr} {o : HO}
theorem Un.any (u : Un fs ex H H1 h h1) {b : Addr} {ob : Obj} (q : h.get? b = some ob) (n : H b = none) (hx : b ∉ ex) : ∃ sl, h1.get? b = some { ob with slots := sl } := by
  by_cases hb : b ∈ fs
  · exact u.slot b ob q n hb hx
  · exact ⟨ob.slots, u.keep b ob q n hb hx⟩
theorem Un.trans (a : Un fs ex H H1 h h1) (b : Un fs ex H1 H2 h1 h2) : Un fs ex H H2 h h2 where
  keep := fun c ob q n hc hx => b.keep c ob (a.keep c ob q n hc hx) (a.free c ob q n hx) hc hx
  slot := fun c ob q n hc hx => by
    obtain ⟨sl, e1⟩ := a.slot c ob q n hc hx
    obtain ⟨sl', e2⟩ := b.slot c _ e1 (a.free c ob q n hx) hc hx
    exact ⟨sl', e2⟩
  free := fun c ob q n hx => by
    obtain ⟨o', e1⟩ := a.there c ob q hx
    exact b.free c o' e1 (a.free c ob q n hx) hx
  there := fun c ob q hx => by
    obtain ⟨o', e1⟩ := a.there c ob q hx
    exact b.there c o' e1 hx
  tups := fun c xs q => b.tups c xs (a.tups c xs q)
  frzs := fun c ob xs q => b.frzs c ob xs (a.frzs c ob xs q)
  tbls := fun c ps q => by
    obtain ⟨m1, e1⟩ := a.tbls c ps q
    obtain ⟨m2, e2⟩ := b.tbls c _ e1
    exact ⟨m1 ++ m2, by rw [e2, Array.append_assoc]⟩
theorem Un.kept (k : ∀ b u, h.get? b = some u → h'.get? b = some u) : Un fs ex H H h h' :=
  ⟨fun b ob q _ _ _ => k b ob q, fun b ob q _ _ _ => ⟨ob.slots, k b ob q⟩, fun _ _ _ n _ => n, fun b ob q _ => ⟨ob, k b ob q⟩, fun _ _ q => q, fun _ _ _ q => q, fun _ ps q => ⟨#[], by rw [q]; simp⟩⟩
theorem Un.refl : Un fs ex H H h h := Un.kept fun _ _ q => q
theorem Un.laid (k : ∀ b u, h.get? b = some u → h'.get? b = some u) (hp : h.objs.size ≤ a) (hn : H a = none) : Un fs ex H (upd H a o) h h' where
  keep := fun b u q _ _ _ => k b u q
  slot := fun b u q _ _ _ => ⟨u.slots, k b u q⟩
  free := fun b u q n _ => by rw [upd_ne (Nat.ne_of_lt (Nat.lt_of_lt_of_le (Heap.lt_size q) hp))]; exact n
  there := fun b u q _ => ⟨u, k b u q⟩
  tups := fun b xs q => by rw [upd_ne (ne_of_none q hn)]; exact q
  frzs := fun b u xs q => by rw [upd_ne (ne_of_none q hn)]; exact q
  tbls := fun b ps q => ⟨#[], by rw [upd_ne (ne_of_none q hn), q]; simp⟩
theorem Un.write (mu : Mut (H x)) (he : e = x ∨ H e = some (.own x)) (k : ∀ b u, b ≠ e → h.get? b = some u → h'.get? b = some u) (heo : ∃ u, h'.get? e = some u) : Un fs ex H (upd H x o) h h' := by
  have hx : ∀ b, H b = none → b ≠ x := fun b n z => by subst z; rw [n] at mu; exact mu
  have hb : ∀ b, H b = none → b ≠ e := fun b n z => by
    subst z
    rcases he with r | r
    · exact hx b n r
    · rw [n] at r; cases r
  have hm : ∀ b u, H b = some u → ¬ Mut (some u) → b ≠ x := fun b u q nm z => by subst z; rw [q] at mu; exact nm mu
  refine ⟨fun b u q n _ _ => k b u (hb b n) q, fun b u q n _ _ => ⟨u.slots, k b u (hb b n) q⟩, fun b u q n _ => by rw [upd_ne (hx b n)]; exact n, fun b u q _ => ?_,
    fun b xs q => by rw [upd_ne (hm b _ q fun z => z)]; exact q, fun b u xs q => by rw [upd_ne (hm b _ q fun z => z)]; exact q, fun b ps q => ⟨#[], by rw [upd_ne (hm b _ q fun z => z), q]; simp⟩⟩
  by_cases hbe : b = e
  · subst hbe; exact heo
  · exact ⟨u, k b u hbe q⟩
theorem Un.mono (u : Un fs ex H H1 h h1) (hs : ∀ b ∈ fs, b ∈ fs') (hx : ∀ b ∈ ex, b ∈ ex') : Un fs' ex' H H1 h h1 :=
  ⟨fun b ob q n hb he => u.keep b ob q n (fun z => hb (hs b z)) fun z => he (hx b z), fun _ _ q n _ he => u.any q n fun z => he (hx _ z), fun b ob q n he => u.free b ob q n fun z => he (hx b z), fun b ob q he => u.there b ob q fun z => he (hx b z), u.tups, u.frzs, u.tbls⟩
end

/-! ### the heap without what is tracked -/
def trk (h : Heap) (H : Hp) : List Addr := (List.range h.objs.size).filter fun a => (H a).isSome
def hidT (h : Heap) (H : Hp) : Heap := PySem.W.hideAll h (trk h H)
theorem hidT_size (h : Heap) (H : Hp) : (hidT h H).objs.size = h.objs.size := PySem.W.hideAll_size _ _
theorem hidT_get {h : Heap} {H : Hp} {b : Addr} {o : Obj} (e : h.get? b = some o) (n : H b = none) : (hidT h H).get? b = some o :=
  PySem.W.hideAll_get _ e fun hm => by
    have q : (H b).isSome = true := (List.mem_filter.mp hm).2
    rw [n] at q; simp at q
theorem of_hidT {h : Heap} {H : Hp} {b : Addr} {o : Obj} (e : (hidT h H).get? b = some o) : h.get? b = some o ∧ H b = none := by
  have e' : h.get? b = some o := PySem.W.of_hideAll (trk h H) e
  refine ⟨e', ?_⟩
  cases q : H b with
  | none => rfl
  | some x =>
    have hm : b ∈ trk h H := List.mem_filter.mpr ⟨List.mem_range.mpr (Heap.lt_size e'), by simp [q]⟩
    have z : (hidT h H).get? b = none := PySem.W.hideAll_none (trk h H) hm
    rw [z] at e; cases e

/-! ### OpenK's ledger, filled with every new object but one -/
def allNews (g h : Heap) (L : Addr) : List (Addr × Obj) := (List.range h.objs.size).filterMap fun a => if a = L ∨ (g.get? a).isSome = true then none else (h.get? a).map fun o => (a, o)
def rest (g h : Heap) (L d : Addr) : List (Addr × Obj) := (allNews g h L).filter fun p => decide (p.1 ≠ d)
end L2

namespace L2
open PySem PySem.Spec PyProof.Rows

/-- the module's facts, over the base: the heap at the law's entry without what is tracked there -/
structure Mod (K : PySem.W.Frag) (mg : Str → Option Value) (base : Heap) : Prop where
  kin : K.In base
  glob : base.Ns mainGlobals mg
  blt : ∃ mb, base.Ns builtinsNs mb ∧ ∀ x : Str, x ≠ "__name__" → mb x = bootBuiltins x
  nolimit : base.NoLimit

/-- the context: a def's body (or a comprehension's block) running. base: fixed through the whole law; s₀, H₀: the entry; outer: the frames whose slots others may change (a def's callers); stack: all frames that run;
   ex: iterators that were made ahead of the entry and are walked here (a comprehension's); fn: the names whose cells were made at the entry (a def: all; a comprehension's block: its own); calm: not within an except suite; pn: pins that every state bears; xe: what is wanted of an exception that leaves the code -/
structure Cx where
  prog : Program
  w : World
  K : PySem.W.Frag
  mg : Str → Option Value
  base : Heap
  A : Around
  N : List Str
  s₀ : Shared
  H₀ : Hp
  env : Env
  outer : List Env
  stack : List Env
  ex : List Addr
  fn : Str → Bool
  calm : Bool
  pn : List (Addr × Obj)
  xe : Value → Shared → Prop
/-- the callers' frames -/
def frs (l : List Env) : List Addr := l.filterMap (·.frame)
abbrev Cx.fs (X : Cx) : List Addr := frs X.outer

def Vis (sc : Scope) (x : Str) : Prop := sc.names.lookup x = some .local ∨ sc.names.lookup x = some .cell ∨ sc.names.lookup x = some .free
def Loc (sc : Scope) (x : Str) : Prop := sc.names.lookup x = some .local ∨ sc.names.lookup x = some .cell
def Look (env : Env) (h : Heap) (m : Str → Option Value) (x : Str) (u : Value) : Prop :=
  (env.kindOf x = some .local ∧ m x = some u) ∨ ((env.kindOf x = some .cell ∨ env.kindOf x = some .free) ∧ ∃ c, env.cells.lookup x = some c ∧ h.IsCell c (some u))

structure Cx.Ok (X : Cx) : Prop where
  mod : Mod X.K X.mg X.base
  kind : X.env.scope.kind = .function
  glob : X.env.globals = mainGlobals
  blt : X.env.builtins = builtinsNs
  above : X.s₀.heap.objs.size ≤ X.env.locals
  inj : ∀ x y c, X.env.cells.lookup x = some c → X.env.cells.lookup y = some c → x = y
  has : ∀ x, (X.env.kindOf x = some .cell ∨ X.env.kindOf x = some .free) → ∃ c, X.env.cells.lookup x = some c
  cab : ∀ x c, X.fn x = true → X.env.cells.lookup x = some c → X.s₀.heap.objs.size ≤ c
  hd : X.calm = true → X.A.handled = none
  frames : X.A.frames = some X.stack
  stk : X.stack = X.outer ∨ (X.stack = X.env :: X.outer ∧ X.env.frame = some X.env.locals)
  exf : ∀ b ∈ X.ex, b ≠ X.env.locals ∧ ∀ x c, X.env.cells.lookup x = some c → c ≠ b
  bs : ∀ b o, X.base.get? b = some o → X.s₀.heap.get? b = some o ∧ X.H₀ b = none
  bsz : X.base.objs.size ≤ X.s₀.heap.objs.size
  noex : ∀ b o, X.base.get? b = some o → b ∉ X.ex
  exfs : ∀ b ∈ X.ex, b ∉ X.fs
  funs : X.s₀.heap.FunFrames X.base X.outer
  frf : ∀ b ∈ X.fs, X.H₀ b = none

structure Inv (X : Cx) (pins : List (Addr × Obj)) (σ : List (Option V)) (H : Hp) (s : Shared) : Prop where
  ok : X.Ok
  os : s.os = X.s₀.os
  bare : AllBare s.gens
  base : Un X.fs X.ex X.H₀ H X.s₀.heap s.heap
  loc : ∃ m, s.heap.Ns X.env.locals m ∧ ∀ (i : Nat) (x : Str) (v : V), X.N[i]? = some x → σ[i]? = some (some v) → Vis X.env.scope x → ∃ u, RelV v u ∧ Look X.env s.heap m x u
  cell : ∀ x c, X.env.cells.lookup x = some c → ∃ v, s.heap.IsCell c v
  free : H X.env.locals = none
  freeC : ∀ x c, X.env.cells.lookup x = some c → H c = none
  pin : ∀ p ∈ X.pn ++ pins, s.heap.get? p.1 = some p.2 ∧ H p.1 = none ∧ p.1 ≠ X.env.locals ∧ p.1 ∉ X.fs ∧ ∀ v, p.2.data ≠ .cell v
  hok : HOk X.prog X.w H s.heap
  len : σ.length = X.N.length

section
variable {X : Cx} {pins : List (Addr × Obj)} {σ : List (Option V)} {H H' : Hp} {s : Shared} {h' : Heap}

theorem Cx.Ok.nofr (ok : X.Ok) {b : Addr} {o : Obj} (e : X.base.get? b = some o) : b ∉ X.fs := fun hb => by
  have := (ok.funs.mem hb).1
  rw [e] at this; cases this
theorem Inv.bs (I : Inv X pins σ H s) : ∀ b o, X.base.get? b = some o → s.heap.get? b = some o ∧ H b = none := fun b o e =>
  ⟨I.base.keep b o (I.ok.bs b o e).1 (I.ok.bs b o e).2 (I.ok.nofr e) (I.ok.noex b o e), I.base.free b o (I.ok.bs b o e).1 (I.ok.bs b o e).2 (I.ok.noex b o e)⟩
theorem Inv.bk (I : Inv X pins σ H s) : ∀ b o, X.base.get? b = some o → s.heap.get? b = some o := fun b o e => (I.bs b o e).1
theorem Inv.mod (I : Inv X pins σ H s) : Mod X.K X.mg X.base := I.ok.mod
theorem Inv.kIn (I : Inv X pins σ H s) : X.K.In s.heap := I.ok.mod.kin.keeps I.bk
theorem Inv.nolimit (I : Inv X pins σ H s) : s.heap.NoLimit := I.ok.mod.nolimit.keeps I.bk
/-- the frame over the base: for OpenK's rules (K.In X.base is I.mod.kin) -/
theorem Inv.fr (I : Inv X pins σ H s) : ∃ m, Fr X.base X.env.locals s.heap m :=
  let ⟨m, hn, _⟩ := I.loc
  ⟨m, hn, I.bk, Nat.le_trans I.ok.bsz I.ok.above⟩
theorem Inv.lt (I : Inv X pins σ H s) : X.env.locals < s.heap.objs.size := let ⟨_, hn, _⟩ := I.loc; hn.lt
theorem Inv.sz (I : Inv X pins σ H s) : X.s₀.heap.objs.size ≤ s.heap.objs.size := Nat.le_trans I.ok.above (Nat.le_of_lt I.lt)
theorem Inv.nofs (I : Inv X pins σ H s) {a : Addr} (h : s.heap.objs.size ≤ a) : a ∉ X.fs := fun hb => by
  obtain ⟨_, o, ho, _⟩ := I.ok.funs.mem hb
  exact absurd (Nat.lt_of_lt_of_le (Heap.lt_size ho) (Nat.le_trans I.sz h)) (Nat.lt_irrefl _)
theorem Inv.cne (I : Inv X pins σ H s) : ∀ x c, X.env.cells.lookup x = some c → c ≠ X.env.locals := fun x c e z => by
  obtain ⟨v, o, ho, hd⟩ := I.cell x c e
  obtain ⟨m, ⟨o', es, ep, ho', hd', _⟩, _⟩ := I.loc
  rw [z, ho'] at ho; cases ho; rw [hd'] at hd; cases hd
theorem Inv.funs (I : Inv X pins σ H s) : s.heap.FunFrames X.base X.outer := by
  have all : ∀ (l : List Env), (∀ b ∈ frs l, b ∈ X.fs) → X.s₀.heap.FunFrames X.base l → s.heap.FunFrames X.base l := by
    intro l
    induction l with
    | nil => intro _ _; trivial
    | cons env r ih =>
      intro hs hl
      obtain ⟨hk, ⟨L, o, hf, hn, ho, hd⟩, hr⟩ := hl
      have hL : L ∈ X.fs := hs L (by unfold frs; rw [List.filterMap_cons, hf]; exact List.mem_cons_self)
      obtain ⟨sl, e⟩ := I.base.slot L o ho (I.ok.frf L hL) hL fun z => I.ok.exfs L z hL
      exact ⟨hk, ⟨L, _, hf, hn, e, hd⟩, ih (fun b hb => hs b (by unfold frs; rw [List.filterMap_cons, hf]; exact List.mem_cons_of_mem _ hb)) hr⟩
  exact all X.outer (fun _ hb => hb) I.ok.funs

/-- the frames that run, for a call -/
theorem Inv.stack (I : Inv X pins σ H s) : s.heap.FunFrames X.base X.stack := by
  rcases I.ok.stk with e | ⟨e, hf⟩
  · rw [e]; exact I.funs
  · rw [e]
    obtain ⟨m, hn, _⟩ := I.loc
    refine .cons (by rw [I.ok.kind]; decide) hf hn ?_ I.funs
    exact Heap.get?_none_of_le (Nat.le_trans I.ok.bsz I.ok.above)
theorem Inv.stkSub (I : Inv X pins σ H s) : ∀ b ∈ frs X.stack, b ∈ X.env.locals :: X.fs := fun b hb => by
  rcases I.ok.stk with e | ⟨e, hf⟩
  · rw [e] at hb; exact List.mem_cons_of_mem _ hb
  · rw [e] at hb
    unfold frs at hb
    rw [List.filterMap_cons, hf] at hb
    exact hb
theorem Inv.stkFree (I : Inv X pins σ H s) : ∀ b ∈ frs X.stack, H b = none := fun b hb => by
  rcases List.mem_cons.mp (I.stkSub b hb) with e | hb
  · rw [e]; exact I.free
  · obtain ⟨_, o, ho, _⟩ := I.ok.funs.mem hb
    exact I.base.free b o ho (I.ok.frf b hb) fun z => I.ok.exfs b z hb

/-- THE STEP: the untracked objects but the frame and the records at ch are kept (the callers' frames up to slots), the frame's map is kept, the new abstract heap is held -/
theorem Inv.step {g' : Array GenState} {t' : Nat} {d' : Drawn} {ch : List Addr} (I : Inv X pins σ H s)
    (hch : ∀ b ∈ ch, (b ∈ X.ex ∨ X.s₀.heap.objs.size ≤ b) ∧ b ≠ X.env.locals ∧ (∀ x c, X.env.cells.lookup x = some c → c ≠ b) ∧ ∀ p ∈ X.pn ++ pins, p.1 ≠ b)
    (keep : ∀ b o, b ≠ X.env.locals → b ∉ X.fs → b ∉ ch → s.heap.get? b = some o → H b = none → h'.get? b = some o)
    (slot : ∀ b o, b ≠ X.env.locals → b ∈ X.fs → b ∉ ch → s.heap.get? b = some o → H b = none → ∃ sl, h'.get? b = some { o with slots := sl }) (free : ∀ b o, b ∉ ch → s.heap.get? b = some o → H b = none → H' b = none)
    (there : ∀ b o, b ∉ ch → s.heap.get? b = some o → ∃ o', h'.get? b = some o')
    (tups : ∀ b xs, H b = some (.tup xs) → H' b = some (.tup xs)) (frzs : ∀ b o u, H b = some (.frz o u) → H' b = some (.frz o u)) (tbls : ∀ b ps, H b = some (.tbl ps) → ∃ more, H' b = some (.tbl (ps ++ more)))
    (ns : ∀ m, s.heap.Ns X.env.locals m → h'.Ns X.env.locals m) (hok : HOk X.prog X.w H' h') (hg : AllBare g') :
    Inv X pins σ H' { s with heap := h', gens := g', drawn := d', toks := t' } := by
  have neL : ∀ b o, X.s₀.heap.get? b = some o → b ≠ X.env.locals := fun b o e => Nat.ne_of_lt (Nat.lt_of_lt_of_le (Heap.lt_size e) I.ok.above)
  have neC : ∀ b o, X.s₀.heap.get? b = some o → b ∉ X.ex → b ∉ ch := fun b o e hx hb => by
    rcases (hch b hb).1 with z | z
    · exact hx z
    · exact absurd (Nat.lt_of_lt_of_le (Heap.lt_size e) z) (Nat.lt_irrefl _)
  have cellK : ∀ x c, X.env.cells.lookup x = some c → ∀ v, s.heap.IsCell c v → h'.IsCell c v := fun x c e v ⟨o, ho, hd⟩ => by
    have nch : c ∉ ch := fun z => (hch c z).2.2.1 x c e rfl
    by_cases hc : c ∈ X.fs
    · obtain ⟨sl, q⟩ := slot c o (I.cne x c e) hc nch ho (I.freeC x c e)
      exact ⟨_, q, hd⟩
    · exact ⟨o, keep c o (I.cne x c e) hc nch ho (I.freeC x c e), hd⟩
  refine ⟨I.ok, I.os, hg, ⟨fun b o e n hb hx => ?_, fun b o e n hb hx => ?_, fun b o e n hx => ?_, fun b o e hx => ?_, fun b xs e => tups b xs (I.base.tups b xs e), fun b o xs e => frzs b o xs (I.base.frzs b o xs e), fun b ps e => ?_⟩, ?_, fun x c e => ?_, ?_, fun x c e => ?_, fun p hp => ?_, hok, I.len⟩
  · exact keep b o (neL b o e) hb (neC b o e hx) (I.base.keep b o e n hb hx) (I.base.free b o e n hx)
  · obtain ⟨sl, e1⟩ := I.base.slot b o e n hb hx
    obtain ⟨sl', e2⟩ := slot b _ (neL b o e) hb (neC b o e hx) e1 (I.base.free b o e n hx)
    exact ⟨sl', e2⟩
  · obtain ⟨o', e1⟩ := I.base.there b o e hx
    exact free b o' (neC b o e hx) e1 (I.base.free b o e n hx)
  · obtain ⟨o', e1⟩ := I.base.there b o e hx
    exact there b o' (neC b o e hx) e1
  · obtain ⟨m1, e1⟩ := I.base.tbls b ps e
    obtain ⟨m2, e2⟩ := tbls b _ e1
    exact ⟨m1 ++ m2, by rw [e2, Array.append_assoc]⟩
  · obtain ⟨m, hn, hl⟩ := I.loc
    refine ⟨m, ns m hn, fun i x v e1 e2 e3 => ?_⟩
    obtain ⟨u, r, l⟩ := hl i x v e1 e2 e3
    refine ⟨u, r, ?_⟩
    rcases l with l | ⟨k, c, e, z⟩
    · exact .inl l
    · exact .inr ⟨k, c, e, cellK x c e _ z⟩
  · obtain ⟨v, z⟩ := I.cell x c e
    exact ⟨v, cellK x c e v z⟩
  · obtain ⟨m, ⟨o, _, _, ho, _⟩, _⟩ := I.loc
    exact free _ o (fun z => (hch _ z).2.1 rfl) ho I.free
  · obtain ⟨v, o, ho, hd⟩ := I.cell x c e
    exact free c o (fun z => (hch c z).2.2.1 x c e rfl) ho (I.freeC x c e)
  · obtain ⟨e, n, ne, nf, d⟩ := I.pin p hp
    have nch : p.1 ∉ ch := fun z => (hch p.1 z).2.2.2 p hp rfl
    exact ⟨keep p.1 p.2 ne nf nch e n, free p.1 p.2 nch e n, ne, nf, d⟩
/-- .. where the frame's own object is kept too -/
theorem Inv.un {t' : Nat} (I : Inv X pins σ H s) (u : Un X.fs [] H H' s.heap h') (hok : HOk X.prog X.w H' h') : Inv X pins σ H' { s with heap := h', toks := t' } := by
  obtain ⟨m, ⟨o, es, ep, ho, r⟩, _⟩ := id I.loc
  obtain ⟨sl, hL⟩ := u.any ho I.free (by simp)
  exact I.step (g' := s.gens) (d' := s.drawn) (ch := []) (fun _ z => nomatch z) (fun b o _ hb _ e n => u.keep b o e n hb (by simp)) (fun b o _ hb _ e n => u.slot b o e n hb (by simp)) (fun b o _ e n => u.free b o e n (by simp)) (fun b o _ e => u.there b o e (by simp)) u.tups u.frzs u.tbls (fun m' hm => by
    obtain ⟨o', es', ep', ho', r'⟩ := hm
    rw [ho] at ho'; cases ho'
    exact ⟨_, es', ep', hL, r'⟩) hok I.bare
/-- behind a call (or a comprehension's block): the slots of this frame may have changed too, the records at ch may have turned -/
theorem Inv.call {g' : Array GenState} {t' : Nat} {d' : Drawn} {ch : List Addr} (I : Inv X pins σ H s) (u : Un (frs X.stack) ch H H' s.heap h') (hok : HOk X.prog X.w H' h') (hg : AllBare g')
    (hch : ∀ b ∈ ch, (b ∈ X.ex ∨ X.s₀.heap.objs.size ≤ b) ∧ b ≠ X.env.locals ∧ (∀ x c, X.env.cells.lookup x = some c → c ≠ b) ∧ ∀ p ∈ X.pn ++ pins, p.1 ≠ b) :
    Inv X pins σ H' { s with heap := h', gens := g', drawn := d', toks := t' } := by
  obtain ⟨m, ⟨o, es, ep, ho, r⟩, _⟩ := id I.loc
  obtain ⟨sl, hL⟩ := u.any ho I.free fun z => (hch _ z).2.1 rfl
  exact I.step (ch := ch) hch (fun b o hL hb hc e n => u.keep b o e n (fun z => (List.mem_cons.mp (I.stkSub b z)).elim hL hb) hc) (fun b o _ _ hc e n => u.any e n hc) (fun b o hc e n => u.free b o e n hc) (fun b o hc e => u.there b o e hc) u.tups u.frzs u.tbls (fun m' hm => by
    obtain ⟨o', es', ep', ho', r'⟩ := hm
    rw [ho] at ho'; cases ho'
    exact ⟨_, es', ep', hL, r'⟩) hok hg
/-- an untracked record of ours (an iterator) has turned -/
theorem Inv.turned {t' : Nat} {it : Addr} (I : Inv X pins σ H s) (k : ∀ b o, b ≠ it → s.heap.get? b = some o → h'.get? b = some o) (hn : H it = none) (hL : it ≠ X.env.locals)
    (h1 : it ∈ X.ex ∨ X.s₀.heap.objs.size ≤ it) (h2 : ∀ x c, X.env.cells.lookup x = some c → c ≠ it) (h3 : ∀ p ∈ X.pn ++ pins, p.1 ≠ it) : Inv X pins σ H { s with heap := h', toks := t' } := by
  have nit : ∀ b u, H b = some u → b ≠ it := fun b u e z => by rw [z, hn] at e; cases e
  refine I.step (g' := s.gens) (d' := s.drawn) (ch := [it]) (fun b hb => ?_) (fun b o _ _ hc e _ => k b o (fun z => hc (by simp [z])) e) (fun b o _ _ hc e _ => ⟨o.slots, k b o (fun z => hc (by simp [z])) e⟩) (fun _ _ _ _ n => n)
    (fun b o hc e => ⟨o, k b o (fun z => hc (by simp [z])) e⟩) (fun _ _ e => e) (fun _ _ _ e => e) (fun b ps e => ⟨#[], by rw [e]; simp⟩) (fun m hm => ?_) (fun b u e => ?_) I.bare
  · have e : b = it := by simpa using hb
    subst e
    exact ⟨h1, hL, h2, h3⟩
  · obtain ⟨o, es, ep, ho, r⟩ := hm
    exact ⟨o, es, ep, k _ o (Ne.symm hL) ho, r⟩
  · refine (I.hok b u e).stay (fun c v hc q => k c v ?_ q) (fun _ q => q) fun _ _ q => q
    rcases hc with z | z
    · rw [z]; exact nit b u e
    · exact nit c _ z
theorem Inv.tok (I : Inv X pins σ H s) (t : Nat) : Inv X pins σ H { s with toks := t } := I.un (h' := s.heap) (t' := t) Un.refl I.hok
/-- all objects kept -/
theorem Inv.kept {t' : Nat} (I : Inv X pins σ H s) (k : ∀ b u, s.heap.get? b = some u → h'.get? b = some u) : Inv X pins σ H { s with heap := h', toks := t' } := I.un (Un.kept k) (I.hok.kept k)
/-- a new object laid and tracked -/
theorem Inv.laid {a : Addr} {o : HO} {t' : Nat} (I : Inv X pins σ H s) (k : ∀ b u, s.heap.get? b = some u → h'.get? b = some u) (hp : s.heap.objs.size ≤ a) (new : ObjOk X.prog X.w (upd H a o) h' a o) :
    Inv X pins σ (upd H a o) { s with heap := h', toks := t' } := I.un (Un.laid k hp (I.hok.fresh hp)) (I.hok.laid k hp new)
/-- an object written -/
theorem Inv.write {x e : Addr} {o : HO} {t' : Nat} (I : Inv X pins σ H s) (mu : Mut (H x)) (he : e = x ∨ H e = some (.own x)) (k : ∀ b u, b ≠ e → s.heap.get? b = some u → h'.get? b = some u) (heo : ∃ u, h'.get? e = some u)
    (new : ObjOk X.prog X.w (upd H x o) h' x o) : Inv X pins σ (upd H x o) { s with heap := h', toks := t' } := I.un (Un.write mu he k heo) (I.hok.write mu he k heo new)
/-- forgetting slots, pins -/
theorem Inv.weak {σ' : List (Option V)} (I : Inv X pins σ H s) (hl : σ'.length = σ.length) (w : ∀ (i : Nat) v, σ'[i]? = some (some v) → σ[i]? = some (some v)) : Inv X pins σ' H s :=
  ⟨I.ok, I.os, I.bare, I.base, let ⟨m, hn, hl'⟩ := I.loc; ⟨m, hn, fun i x v e1 e2 e3 => hl' i x v e1 (w i v e2) e3⟩, I.cell, I.free, I.freeC, I.pin, I.hok, hl.trans I.len⟩
theorem Inv.pins_of {pins' : List (Addr × Obj)} (I : Inv X pins σ H s) (h : ∀ p ∈ pins', s.heap.get? p.1 = some p.2 ∧ H p.1 = none ∧ p.1 ≠ X.env.locals ∧ p.1 ∉ X.fs ∧ ∀ v, p.2.data ≠ .cell v) : Inv X pins' σ H s :=
  ⟨I.ok, I.os, I.bare, I.base, I.loc, I.cell, I.free, I.freeC, fun p hp => (List.mem_append.mp hp).elim (fun z => I.pin p (List.mem_append_left _ z)) (h p), I.hok, I.len⟩

theorem nodup_ix {N : List Str} (hN : N.Nodup) {i j : Nat} {x : Str} (a : N[i]? = some x) (b : N[j]? = some x) : i = j := by
  obtain ⟨h1, e1⟩ := List.getElem?_eq_some_iff.mp a
  obtain ⟨h2, e2⟩ := List.getElem?_eq_some_iff.mp b
  exact (List.getElem_inj hN).mp (e1.trans e2.symm)

/-- a name is stored; what changed -/
theorem store_ok2 {M : Model} {A : Around} {E : Value → Shared → Prop} {i : Nat} {x : Str} {v : V} {u : Value} {Q : Unit → Shared → Prop} (I : Inv X pins σ H s) (hN : X.N.Nodup) (hi : X.N[i]? = some x) (hx : Loc X.env.scope x) (r : RelV v u)
    (h : ∀ s', Inv X pins (σ.set i (some v)) H s' → (∃ a, Heap.SameBut a s.heap s'.heap ∧ (a = X.env.locals ∨ X.env.cells.lookup x = some a)) → Q () s') (hf : X.fn x = true ∨ X.env.scope.names.lookup x = some .local := by first | exact .inl rfl | exact .inr rfl | assumption) : wpAny M A (storeName X.env x u) Q E s := by
  obtain ⟨m, hn, hl⟩ := id I.loc
  have hcls : (X.env.scope.kind == .class || (X.env.scope.kind == .module && X.env.locals != X.env.globals)) = false := by rw [I.ok.kind]; rfl
  have hiσ : i < σ.length := by rw [I.len]; exact (List.getElem?_eq_some_iff.mp hi).1
  have cne := I.cne
  have tracked : ∀ {a : Addr} {h' : Heap}, (∃ o, s.heap.get? a = some o ∧ H a = none) → Heap.SameBut a s.heap h' → HOk X.prog X.w H h' := fun {a h'} ha hs b ob e => by
    obtain ⟨_, _, hfree⟩ := ha
    refine (I.hok b ob e).stay (fun c w' hc q => (hs.2 c ?_).trans q) (fun _ q => q) fun _ _ q => q
    rintro rfl
    rcases hc with rfl | hc
    · rw [hfree] at e; cases e
    · rw [hfree] at hc; cases hc
  rcases hx with hk | hk
  · refine wpAny_storeName_local hk hn (fun h' hn' hs => ?_) hcls
    obtain ⟨oL, _, _, hoL, _⟩ := id hn
    refine h _ ⟨I.ok, I.os, I.bare, ⟨fun b o e n hb hx => ?_, fun b o e n hb hx => ?_, I.base.free, fun b o e hx => ?_, I.base.tups, I.base.frzs, I.base.tbls⟩, ⟨_, hn', fun j y v' e1 e2 e3 => ?_⟩, fun y c e => ?_, I.free, I.freeC, fun p hp => ?_, tracked ⟨oL, hoL, I.free⟩ hs, by simpa using I.len⟩ ⟨_, hs, .inl rfl⟩
    · exact (hs.2 b (Nat.ne_of_lt (Nat.lt_of_lt_of_le (Heap.lt_size e) I.ok.above))).trans (I.base.keep b o e n hb hx)
    · obtain ⟨sl, e1⟩ := I.base.slot b o e n hb hx
      exact ⟨sl, (hs.2 b (Nat.ne_of_lt (Nat.lt_of_lt_of_le (Heap.lt_size e) I.ok.above))).trans e1⟩
    · obtain ⟨o', e1⟩ := I.base.there b o e hx
      exact ⟨o', (hs.2 b (Nat.ne_of_lt (Nat.lt_of_lt_of_le (Heap.lt_size e) I.ok.above))).trans e1⟩
    · by_cases hj : j = i
      · subst hj
        rw [hi] at e1; cases e1
        rw [List.getElem?_set_self hiσ] at e2
        cases e2
        exact ⟨u, r, .inl ⟨hk, by simp⟩⟩
      · rw [List.getElem?_set_ne (Ne.symm hj)] at e2
        obtain ⟨u', r', q⟩ := hl j y v' e1 e2 e3
        refine ⟨u', r', ?_⟩
        rcases q with ⟨k, e⟩ | ⟨k, c, e, z⟩
        · refine .inl ⟨k, ?_⟩
          have : y ≠ x := fun e => hj (nodup_ix hN e1 (e ▸ hi))
          simp [this, e]
        · exact .inr ⟨k, c, e, z.sameBut hs (cne y c e)⟩
    · obtain ⟨w', z⟩ := I.cell y c e
      exact ⟨w', z.sameBut hs (cne y c e)⟩
    · obtain ⟨e, n, ne, nf, d⟩ := I.pin p hp
      exact ⟨(hs.2 p.1 ne).trans e, n, ne, nf, d⟩
  · have hfn : X.fn x = true := by
      rcases hf with z | z
      · exact z
      · rw [z] at hk; cases hk
    obtain ⟨c, hc⟩ := I.ok.has x (.inl hk)
    obtain ⟨w', z⟩ := I.cell x c hc
    refine wpAny_storeName_cell I.ok.kind hk hc z (fun h' hc' hs => ?_)
    obtain ⟨oc, hoc, hocd⟩ := id z
    refine h { s with heap := h' } ⟨I.ok, I.os, I.bare, ⟨fun b o e n hb hx => ?_, fun b o e n hb hx => ?_, I.base.free, fun b o e hx => ?_, I.base.tups, I.base.frzs, I.base.tbls⟩, ⟨m, hn.sameBut hs (Ne.symm (cne x c hc)), fun j y v' e1 e2 e3 => ?_⟩, fun y c' e => ?_, I.free, I.freeC, fun p hp => ?_, tracked ⟨oc, hoc, I.freeC x c hc⟩ hs, by simpa using I.len⟩ ⟨c, hs, .inr hc⟩
    · exact (hs.2 b (Nat.ne_of_lt (Nat.lt_of_lt_of_le (Heap.lt_size e) (I.ok.cab x c hfn hc)))).trans (I.base.keep b o e n hb hx)
    · obtain ⟨sl, e1⟩ := I.base.slot b o e n hb hx
      exact ⟨sl, (hs.2 b (Nat.ne_of_lt (Nat.lt_of_lt_of_le (Heap.lt_size e) (I.ok.cab x c hfn hc)))).trans e1⟩
    · obtain ⟨o', e1⟩ := I.base.there b o e hx
      exact ⟨o', (hs.2 b (Nat.ne_of_lt (Nat.lt_of_lt_of_le (Heap.lt_size e) (I.ok.cab x c hfn hc)))).trans e1⟩
    · by_cases hj : j = i
      · subst hj
        rw [hi] at e1; cases e1
        rw [List.getElem?_set_self hiσ] at e2
        cases e2
        exact ⟨u, r, .inr ⟨.inl hk, c, hc, hc'⟩⟩
      · rw [List.getElem?_set_ne (Ne.symm hj)] at e2
        obtain ⟨u', r', q⟩ := hl j y v' e1 e2 e3
        refine ⟨u', r', ?_⟩
        rcases q with q | ⟨k, c', e, z'⟩
        · exact .inl q
        · refine .inr ⟨k, c', e, z'.sameBut hs ?_⟩
          rintro rfl
          exact hj (nodup_ix hN e1 (I.ok.inj _ _ _ e hc ▸ hi))
    · by_cases hcc : c' = c
      · subst hcc; exact ⟨_, hc'⟩
      · obtain ⟨w2, z2⟩ := I.cell y c' e
        exact ⟨w2, z2.sameBut hs hcc⟩
    · obtain ⟨e, n, ne, nf, d⟩ := I.pin p hp
      refine ⟨(hs.2 p.1 ?_).trans e, n, ne, nf, d⟩
      intro q
      rw [q, hoc] at e
      have q' : oc = p.2 := Option.some.inj e
      exact d w' (by rw [← q']; exact hocd)
theorem store_ok {M : Model} {A : Around} {E : Value → Shared → Prop} {i : Nat} {x : Str} {v : V} {u : Value} {Q : Unit → Shared → Prop} (I : Inv X pins σ H s) (hN : X.N.Nodup) (hi : X.N[i]? = some x) (hx : Loc X.env.scope x) (r : RelV v u)
    (h : ∀ s', Inv X pins (σ.set i (some v)) H s' → Q () s') (hf : X.fn x = true ∨ X.env.scope.names.lookup x = some .local := by first | exact .inl rfl | exact .inr rfl | assumption) : wpAny M A (storeName X.env x u) Q E s :=
  store_ok2 I hN hi hx r (fun s' I' _ => h s' I') hf
/-- behind a call or a block, the state as it is -/
theorem Inv.call' {s' : Shared} {ch : List Addr} (I : Inv X pins σ H s) (ho : s'.os = s.os) (u : Un (frs X.stack) ch H H' s.heap s'.heap) (hok : HOk X.prog X.w H' s'.heap) (hg : AllBare s'.gens)
    (hch : ∀ b ∈ ch, (b ∈ X.ex ∨ X.s₀.heap.objs.size ≤ b) ∧ b ≠ X.env.locals ∧ (∀ x c, X.env.cells.lookup x = some c → c ≠ b) ∧ ∀ p ∈ X.pn ++ pins, p.1 ≠ b) : Inv X pins σ H' s' := by
  obtain ⟨h', g', d', t', o'⟩ := s'
  have e : o' = s.os := ho
  subst e
  exact I.call (g' := g') (t' := t') (d' := d') u hok hg hch
end

/-! ### the judgements -/
/-- an exception: its class, its own dict's address (where it has one), the abstract heap behind it -/
abbrev XK := Value → Option Addr → Hp → Prop
abbrev St := List (Option V)
abbrev VK := V → Hp → Prop
/-- an expression's reading; a test's; an argument list's -/
abbrev TE := St → Hp → VK → Prop
abbrev TT := St → Hp → (Bool → Hp → Prop) → Prop
abbrev TA := St → Hp → (List V → Hp → Prop) → Prop
/-- what is wanted behind a statement -/
structure Ends where
  nx : St → Hp → Prop
  rt : VK
  bk : St → Hp → Prop := fun _ _ => False
  ct : St → Hp → Prop := fun _ _ => False
abbrev TS := Ends → St → Hp → Prop

def EP (X : Cx) (pins : List (Addr × Obj)) (σ : St) (Q : VK) (u : Value) (s' : Shared) : Prop := ∃ v H', Inv X pins σ H' s' ∧ RelV v u ∧ Q v H'
def TP (X : Cx) (pins : List (Addr × Obj)) (σ : St) (Q : Bool → Hp → Prop) (b : Bool) (s' : Shared) : Prop := ∃ H', Inv X pins σ H' s' ∧ Q b H'
def AP (X : Cx) (pins : List (Addr × Obj)) (σ : St) (Q : List V → Hp → Prop) (us : List Value) (s' : Shared) : Prop := ∃ vs H', Inv X pins σ H' s' ∧ Vals vs us ∧ Q vs H'
def SP (X : Cx) (pins : List (Addr × Obj)) (D : Ends) (f : Flow) (s' : Shared) : Prop :=
  match f with
  | .next => ∃ σ' H', Inv X pins σ' H' s' ∧ D.nx σ' H'
  | .brk => ∃ σ' H', Inv X pins σ' H' s' ∧ D.bk σ' H'
  | .cont => ∃ σ' H', Inv X pins σ' H' s' ∧ D.ct σ' H'
  | .ret u => ∃ v σ' H', Inv X pins σ' H' s' ∧ RelV v u ∧ D.rt v H'

def PE (X : Cx) (e : Expr) (t : TE) : Prop :=
  ∀ (pins : List (Addr × Obj)) (s : Shared) (σ : St) (H : Hp) (Q : VK), Inv X pins σ H s → t σ H Q → wpAny (model X.prog X.w) X.A (eval e X.env) (EP X pins σ Q) X.xe s
def PT (X : Cx) (e : Expr) (t : TT) : Prop :=
  ∀ (pins : List (Addr × Obj)) (s : Shared) (σ : St) (H : Hp) (Q : Bool → Hp → Prop), Inv X pins σ H s → t σ H Q → wpAny (model X.prog X.w) X.A (isTrue e X.env (eval e X.env)) (TP X pins σ Q) X.xe s
/-- a test whatever its 'whole' is (and, or) -/
def PW (X : Cx) (e : Expr) (t : TT) : Prop :=
  ∀ (whole : Sem Value) (pins : List (Addr × Obj)) (s : Shared) (σ : St) (H : Hp) (Q : Bool → Hp → Prop), Inv X pins σ H s → t σ H Q → wpAny (model X.prog X.w) X.A (isTrue e X.env whole) (TP X pins σ Q) X.xe s
theorem PW.pt {X : Cx} {e : Expr} {t : TT} (h : PW X e t) : PT X e t := h _
/-- an argument list (no star), from the left -/
def PA (X : Cx) (es : List Expr) (t : TA) : Prop :=
  ∀ (pos : Pos) (pins : List (Addr × Obj)) (s : Shared) (σ : St) (H : Hp) (Q : List V → Hp → Prop), Inv X pins σ H s → t σ H Q → wpAny (model X.prog X.w) X.A (spliced (backTo pos (starEach es X.env))) (AP X pins σ Q) X.xe s
def PS (X : Cx) (st : Stmt) (t : TS) : Prop :=
  ∀ (pins : List (Addr × Obj)) (s : Shared) (σ : St) (H : Hp) (D : Ends), Inv X pins σ H s → t D σ H → wpAny (model X.prog X.w) X.A (exec st X.env) (SP X pins D) X.xe s
def PSs (X : Cx) (st : List Stmt) (t : TS) : Prop :=
  ∀ (pins : List (Addr × Obj)) (s : Shared) (σ : St) (H : Hp) (D : Ends), Inv X pins σ H s → t D σ H → wpAny (model X.prog X.w) X.A (execs st X.env) (SP X pins D) X.xe s
/-- weaken the end -/
theorem thn {α : Type} {t : Sem α} {Q Q' : α → Shared → Prop} {M : Model} {A : Around} {E : Value → Shared → Prop} {s : Shared} (h : wpAny M A t Q E s) (hQ : ∀ a s, Q a s → Q' a s) : wpAny M A t Q' E s := wpAny_mono h hQ fun _ _ x => x
end L2

namespace L2
open PySem PySem.Spec PyProof.Rows
section
variable {X : Cx}

/-! ### names and constants -/
def tVar (i : Nat) : TE := fun σ H Q => ∃ v, σ[i]? = some (some v) ∧ Q v H
def tC (v : V) : TE := fun _ H Q => Q v H
theorem pe_var {i : Nat} {x : Str} {pos : Pos} (hN : X.N[i]? = some x) (hv : Vis X.env.scope x) (hd : (x == ("__debug__" : Str)) = false := by decide) (hcd : (x == ("__classdict__" : Str)) = false := by decide) : PE X (.Name x pos) (tVar i) := by
  intro pins s σ H Q I h
  obtain ⟨v, e, h⟩ := h
  obtain ⟨m, hn, hl⟩ := I.loc
  obtain ⟨u, r, l⟩ := hl i x v hN e hv
  have fin : EP X pins σ Q u s := ⟨v, H, I, r, h⟩
  rcases l with ⟨hk, hm⟩ | ⟨hk, c, hc, hcell⟩
  · exact wpAny_Name (wpAny_loadName_local I.ok.kind hk hn hm fin) hd
  · rcases hk with hk | hk
    · exact wpAny_Name (wpAny_loadName_cell I.ok.kind hk hc hcell fin) hd
    · exact wpAny_Name (wpAny_loadName_free I.ok.kind hk hc hcell fin hcd) hd
theorem pe_int {i j pos} : PE X (.Constant (.int i) j pos) (tC (.int i)) := fun _ _ _ H _ I h => wpAny_Constant_int ⟨.int i, H, I.tok _, ⟨_, rfl⟩, h⟩
theorem pe_bl {b j pos} : PE X (.Constant (.bool b) j pos) (tC (.bl b)) := fun _ _ _ H _ I h => Constant_bool ⟨.bl b, H, I, rfl, h⟩
theorem pe_non {j pos} : PE X (.Constant .none j pos) (tC .non) := fun _ _ _ H _ I h => Constant_none ⟨.non, H, I, rfl, h⟩
theorem pe_str {x j pos} : PE X (.Constant (.str x) j pos) (tC (.str x)) := fun _ _ _ H _ I h => Calls.Constant_str ⟨.str x, H, I.tok _, ⟨_, rfl⟩, h⟩

/-- a global name of the def -/
def Gl (X : Cx) (x : Str) : Prop := X.env.kindOf x = some .globalImplicit
theorem ld_glob {E : Value → Shared → Prop} {pins : List (Addr × Obj)} {s : Shared} {σ : St} {H : Hp} {x : Str} {u : Value} {pos : Pos} {Q : Value → Shared → Prop} (I : Inv X pins σ H s) (hg : Gl X x) (hm : X.mg x = some u) (h : Q u s)
    (hd : (x == ("__debug__" : Str)) = false := by decide) : wpAny (model X.prog X.w) X.A (eval (.Name x pos) X.env) Q E s :=
  Calls.Name_function_global I.ok.kind hg (Calls.loadGlobal_global (by rw [I.ok.glob]; exact I.mod.glob.keeps I.bk) hm h) hd
theorem ld_blt {E : Value → Shared → Prop} {pins : List (Addr × Obj)} {s : Shared} {σ : St} {H : Hp} {x : Str} {u : Value} {pos : Pos} {Q : Value → Shared → Prop} (I : Inv X pins σ H s) (hg : Gl X x) (hm : X.mg x = none) (hv : bootBuiltins x = some u) (h : Q u s)
    (hn : x ≠ "__name__" := by decide) (hd : (x == ("__debug__" : Str)) = false := by decide) : wpAny (model X.prog X.w) X.A (eval (.Name x pos) X.env) Q E s := by
  obtain ⟨mb, h1, h2⟩ := I.mod.blt
  exact Calls.Name_function_global I.ok.kind hg (Calls.loadGlobal_builtin (by rw [I.ok.glob]; exact I.mod.glob.keeps I.bk) hm (by rw [I.ok.blt]; exact h1.keeps I.bk) ((h2 x hn).trans hv) h) hd
/-- a module's constant, a class, a function, as a value -/
theorem pe_glob {x : Str} {v : V} {u : Value} {pos : Pos} (hg : Gl X x) (hm : X.mg x = some u) (r : RelV v u) (hd : (x == ("__debug__" : Str)) = false := by decide) : PE X (.Name x pos) (tC v) :=
  fun _ _ _ H _ I h => ld_glob I hg hm ⟨v, H, I, r, h⟩ hd
theorem pe_bltn {x : Str} {v : V} {u : Value} {pos : Pos} (hg : Gl X x) (hm : X.mg x = none) (hv : bootBuiltins x = some u) (r : RelV v u) (hn : x ≠ "__name__" := by decide) (hd : (x == ("__debug__" : Str)) = false := by decide) : PE X (.Name x pos) (tC v) :=
  fun _ _ _ H _ I h => ld_blt I hg hm hv ⟨v, H, I, r, h⟩ hn hd

/-! ### arithmetic -/
/-- two ints -/
def t2I (ta tb : TE) (k : Int → Int → Hp → Prop) : St → Hp → Prop := fun σ H => ta σ H fun x H1 => tb σ H1 fun y H2 => ∃ i j, x = .int i ∧ y = .int j ∧ k i j H2
def tAdd (ta tb : TE) : TE := fun σ H Q => t2I ta tb (fun i j H2 => Q (.int (i + j)) H2) σ H
def tSub (ta tb : TE) : TE := fun σ H Q => t2I ta tb (fun i j H2 => Q (.int (i - j)) H2) σ H
/-- the left factor below 2^64 -/
def tMul (ta tb : TE) : TE := fun σ H Q => t2I ta tb (fun i j H2 => (-(2 ^ 64) < i ∧ i < 2 ^ 64) ∧ Q (.int (i * j)) H2) σ H
variable {a b : Expr} {ta tb : TE} {pos : Pos}
/-! ### comparisons -/
def PC (X : Cx) (op : CmpOp) (a b : Expr) (t : TE) : Prop :=
  ∀ (pins : List (Addr × Obj)) (s : Shared) (σ : St) (H : Hp) (Q : VK), Inv X pins σ H s → t σ H Q →
    wpAny (model X.prog X.w) X.A (eval a X.env) (fun v s₁ => wpAny (model X.prog X.w) X.A (eval b X.env) (fun u s₂ => wpAny (model X.prog X.w) X.A (compareOp op v u) (EP X pins σ Q) X.xe s₂) X.xe s₁) X.xe s
theorem nobehind (b : Expr) {op : CmpOp} (h : op ≠ .In) (h2 : op ≠ .NotIn) : behindInMarks op b = false := by
  have e1 : (op == CmpOp.In) = false := by cases op <;> first | rfl | exact absurd rfl h
  have e2 : (op == CmpOp.NotIn) = false := by cases op <;> first | rfl | exact absurd rfl h2
  cases b <;> simp [behindInMarks, e1, e2]
def tCmp (p : Int → Int → Bool) (ta tb : TE) : TE := fun σ H Q => t2I ta tb (fun i j H2 => Q (.bl (p i j)) H2) σ H
abbrev tLt : TE → TE → TE := tCmp fun i j => decide (i < j)
abbrev tLe : TE → TE → TE := tCmp fun i j => decide (i ≤ j)
abbrev tGt : TE → TE → TE := tCmp fun i j => decide (j < i)
abbrev tGe : TE → TE → TE := tCmp fun i j => decide (j ≤ i)
abbrev tEqI : TE → TE → TE := tCmp fun i j => decide (i = j)
abbrev tNeI : TE → TE → TE := tCmp fun i j => !decide (i = j)
/-- is None -/
def tIsN (ta : TE) : TE := fun σ H Q => ta σ H fun x H1 => Q (.bl (decide (x = .non))) H1
def tNotN (ta : TE) : TE := fun σ H Q => ta σ H fun x H1 => Q (.bl (!decide (x = .non))) H1
/-- a comparison as a value, as a test -/
def tB (t : TE) : TT := fun σ H Q => t σ H fun x H1 => ∃ c, x = .bl c ∧ Q c H1
theorem pt_cmp {op : CmpOp} {t : TE} (h : PC X op a b t) (h1 : behindInMarks op b = false := by first | exact nobehind _ (by decide) (by decide) | rfl) : PT X (.Compare a [op] [b] pos) (tB t) := by
  intro pins s σ H Q I hw
  refine wpAny_isTrue_Compare1 (thn (h pins s σ H _ I hw) fun v s1 h1 => thn h1 fun u s2 h2 => thn h2 fun c s3 ⟨x, H1, I1, r1, q1⟩ => ?_) h1
  obtain ⟨d, rfl, q⟩ := q1
  cases r1
  exact wpAny_truthy_bool ⟨H1, I1, q⟩
/-! ### and, or, not -/
variable {tA tB' : TT} {rest : List Expr}
def tAnd (t u : TT) : TT := fun σ H Q => t σ H fun c H1 => if c = true then u σ H1 Q else Q false H1
def tOr (t u : TT) : TT := fun σ H Q => t σ H fun c H1 => if c = true then Q true H1 else u σ H1 Q
def tNot (t : TT) : TT := fun σ H Q => t σ H fun c H1 => Q (!c) H1
theorem pw_and1 (ha : PT X a tA) : PW X (.BoolOp .And [a] pos) tA := by
  intro wh pins s σ H Q I h
  refine isTrue_and (thn (ha pins s σ H Q I h) fun c s1 e => ?_)
  cases c with
  | true => exact isTrue_and_nil e
  | false => exact e
theorem pw_or1 (ha : PT X a tA) : PW X (.BoolOp .Or [a] pos) tA := by
  intro wh pins s σ H Q I h
  refine isTrue_or (thn (ha pins s σ H Q I h) fun c s1 e => ?_)
  cases c with
  | false => exact isTrue_or_nil e
  | true => exact e
theorem pw_and (ha : PT X a tA) (hb : PW X (.BoolOp .And (b :: rest) pos) tB') : PW X (.BoolOp .And (a :: b :: rest) pos) (tAnd tA tB') := by
  intro wh pins s σ H Q I h
  refine isTrue_and (thn (ha pins s σ H _ I h) fun c s1 ⟨H1, I1, q1⟩ => ?_)
  cases c with
  | true => exact hb wh pins s1 σ H1 Q I1 q1
  | false => exact ⟨H1, I1, q1⟩
theorem pw_or (ha : PT X a tA) (hb : PW X (.BoolOp .Or (b :: rest) pos) tB') : PW X (.BoolOp .Or (a :: b :: rest) pos) (tOr tA tB') := by
  intro wh pins s σ H Q I h
  refine isTrue_or (thn (ha pins s σ H _ I h) fun c s1 ⟨H1, I1, q1⟩ => ?_)
  cases c with
  | true => exact ⟨H1, I1, q1⟩
  | false => exact hb wh pins s1 σ H1 Q I1 q1
theorem pt_not (ha : PT X a tA) : PT X (.UnaryOp .Not a pos) (tNot tA) := by
  intro pins s σ H Q I h
  exact isTrue_not (ha pins s σ H (fun c H1 => Q (!c) H1) I h)
/-- .. as values (bools) -/
def tAndV (ta tb : TE) : TE := fun σ H Q => ta σ H fun x H1 => ∃ c, x = .bl c ∧ if c = true then tb σ H1 Q else Q (.bl false) H1
def tOrV (ta tb : TE) : TE := fun σ H Q => ta σ H fun x H1 => ∃ c, x = .bl c ∧ if c = true then Q (.bl true) H1 else tb σ H1 Q
def tNotV (ta : TE) : TE := fun σ H Q => ta σ H fun x H1 => ∃ c, x = .bl c ∧ Q (.bl (!c)) H1
theorem pe_one {op} {t : TE} (h : PE X a t) : PE X (.BoolOp op [a] pos) t := fun pins s σ H Q I hw => BoolOp_one (h pins s σ H Q I hw)
theorem pe_and (ha : PE X a ta) (hb : PE X (.BoolOp .And (b :: rest) pos) tb) : PE X (.BoolOp .And (a :: b :: rest) pos) (tAndV ta tb) := by
  intro pins s σ H Q I h
  refine BoolOp_and (thn (ha pins s σ H _ I h) fun v s1 ⟨x, H1, I1, r1, q1⟩ => ?_)
  obtain ⟨c, rfl, q1⟩ := q1
  cases r1
  refine wpAny_truthy_bool ?_
  cases c with
  | true => exact hb pins s1 σ H1 Q I1 q1
  | false => exact ⟨.bl false, H1, I1, rfl, q1⟩
theorem pe_not (ha : PE X a ta) : PE X (.UnaryOp .Not a pos) (tNotV ta) := by
  intro pins s σ H Q I h
  refine UnaryOp_ (thn (ha pins s σ H _ I h) fun v s1 ⟨x, H1, I1, r1, q1⟩ => ?_)
  obtain ⟨c, rfl, q1⟩ := q1
  cases r1
  exact not_of (wpAny_truthy_bool ⟨.bl (!c), H1, I1, rfl, q1⟩)
/-- a if t else b -/
def tIf (t : TT) (ta tb : TE) : TE := fun σ H Q => t σ H fun c H1 => if c = true then ta σ H1 Q else tb σ H1 Q
theorem pe_ifExp {c : Expr} (hc : PT X c tA) (ha : PE X a ta) (hb : PE X b tb) : PE X (.IfExp c a b pos) (tIf tA ta tb) := by
  intro pins s σ H Q I h
  refine wpAny_IfExp (thn (hc pins s σ H _ I h) fun d s1 ⟨H1, I1, q1⟩ => ?_)
  cases d with
  | true => exact ha pins s1 σ H1 Q I1 q1
  | false => exact hb pins s1 σ H1 Q I1 q1
end
end L2

namespace L2
open PySem PySem.Spec PyProof.Rows

/-! ### a list, a tuple that is read: tracked, frozen, or an object of the module -/
def SqL (K : PySem.W.Frag) (H : Hp) (a : Addr) (xs : List V) : Prop :=
  Rd H a (.lst xs) ∨
    ∃ (o : Obj) (its : Array Value) (n : Nat), K.lookup a = some o ∧ o.cls = .type "list" ∧ o.dict = none ∧ o.data = .seq its n ∧ its.size ≤ sizeLine ∧ Vals xs its.toList
def SqT (K : PySem.W.Frag) (H : Hp) (a : Addr) (xs : List V) : Prop :=
  Rd H a (.tup xs) ∨
    ∃ (o : Obj) (its : Array Value) (n : Nat), K.lookup a = some o ∧ o.cls = .type "tuple" ∧ o.data = .seq its n ∧ its.size ≤ sizeLine ∧ Vals xs its.toList
def absV : Value → Option V
  | .none => some .non
  | .bool b => some (.bl b)
  | .int i _ => some (.int i)
  | .str x _ => some (.str x)
  | .bytes b _ => some (.byt b)
  | .float b _ => some (.flt b)
  | .ref a => some (.ref a)
  | .type n => some (.ty n)
  | _ => none
theorem RelV.abs {x : V} {u : Value} (r : RelV x u) : absV u = some x := by
  cases x with
  | non => cases r; rfl
  | bl _ => cases r; rfl
  | int _ => obtain ⟨t, rfl⟩ := r; rfl
  | str _ => obtain ⟨t, rfl⟩ := r; rfl
  | byt _ => obtain ⟨t, rfl⟩ := r; rfl
  | flt _ => obtain ⟨t, rfl⟩ := r; rfl
  | ref _ => cases r; rfl
  | ty _ => cases r; rfl
theorem RelV.inj {x y : V} {u : Value} (r : RelV x u) (q : RelV y u) : x = y := Option.some.inj (r.abs.symm.trans q.abs)
theorem Vals.inj : ∀ {xs ys : List V} {us : List Value}, Vals xs us → Vals ys us → xs = ys
  | _, _, _, .nil, .nil => rfl
  | _, _, _, .cons r t, .cons r' t' => by rw [r.inj r', Vals.inj t t']
section
variable {X : Cx} {pins : List (Addr × Obj)} {σ : St} {H : Hp} {s : Shared} {a : Addr} {xs ys : List V}
theorem SqL.of {K : PySem.W.Frag} (h : H a = some (.lst xs)) : SqL K H a xs := .inl (.inl h)
theorem SqT.of {K : PySem.W.Frag} (h : H a = some (.tup xs)) : SqT K H a xs := .inl (.inl h)
theorem Inv.list (I : Inv X pins σ H s) (h : SqL X.K H a xs) : ∃ its : List Value, Vals xs its ∧ PlainL s.heap a its.toArray ∧ xs.length ≤ sizeLine := by
  rcases h with h | ⟨o, its, n, hk, hc, hd, hs, hz, r⟩
  · obtain ⟨z, its, n, r, e⟩ := h.ok I.hok
    exact ⟨its, r, ⟨_, n, e, rfl, rfl, rfl⟩, z⟩
  · refine ⟨its.toList, r, ⟨o, n, I.kIn a o hk, hc, hd, by simpa using hs⟩, ?_⟩
    have e := r.length
    simp only [Array.length_toList] at e
    omega
theorem Inv.tuple (I : Inv X pins σ H s) (h : SqT X.K H a xs) : ∃ its : List Value, Vals xs its ∧ IsTup s.heap a its.toArray ∧ xs.length ≤ sizeLine := by
  rcases h with h | ⟨o, its, n, hk, hc, hs, hz, r⟩
  · obtain ⟨z, its, r, p⟩ := h.ok I.hok
    exact ⟨its, r, p, z⟩
  · refine ⟨its.toList, r, ⟨o, I.kIn a o hk, hc, n, by simpa using hs⟩, ?_⟩
    have e := r.length
    simp only [Array.length_toList] at e
    omega
theorem Inv.list_inj (I : Inv X pins σ H s) (h : SqL X.K H a xs) (h' : SqL X.K H a ys) : xs = ys := by
  obtain ⟨its, r, ⟨o, n, e, _, _, d⟩, _⟩ := I.list h
  obtain ⟨its', r', ⟨o', n', e', _, _, d'⟩, _⟩ := I.list h'
  rw [e] at e'; cases e'
  rw [d] at d'
  injection d' with d1 _
  have : its = its' := by simpa using congrArg Array.toList d1
  subst this
  exact r.inj r'
theorem Inv.tuple_inj (I : Inv X pins σ H s) (h : SqT X.K H a xs) (h' : SqT X.K H a ys) : xs = ys := by
  obtain ⟨its, r, ⟨o, e, _, n, d⟩, _⟩ := I.tuple h
  obtain ⟨its', r', ⟨o', e', _, n', d'⟩, _⟩ := I.tuple h'
  rw [e] at e'; cases e'
  rw [d] at d'
  injection d' with d1 _
  have : its = its' := by simpa using congrArg Array.toList d1
  subst this
  exact r.inj r'
end

/-! ### another wish about exceptions -/
abbrev Cx.wish (X : Cx) (E : Value → Shared → Prop) : Cx := { X with xe := E }
/-- no exception leaves -/
abbrev Cx.nox (X : Cx) : Cx := X.wish fun _ _ => False
theorem Cx.Ok.wish {X : Cx} (ok : X.Ok) (E : Value → Shared → Prop) : (X.wish E).Ok :=
  ⟨ok.mod, ok.kind, ok.glob, ok.blt, ok.above, ok.inj, ok.has, ok.cab, ok.hd, ok.frames, ok.stk, ok.exf, ok.bs, ok.bsz, ok.noex, ok.exfs, ok.funs, ok.frf⟩
theorem Cx.Ok.unwish {X : Cx} {E : Value → Shared → Prop} (ok : (X.wish E).Ok) : X.Ok :=
  ⟨ok.mod, ok.kind, ok.glob, ok.blt, ok.above, ok.inj, ok.has, ok.cab, ok.hd, ok.frames, ok.stk, ok.exf, ok.bs, ok.bsz, ok.noex, ok.exfs, ok.funs, ok.frf⟩
section
variable {X : Cx} {pins : List (Addr × Obj)} {σ : St} {H : Hp} {s : Shared} {E : Value → Shared → Prop}
theorem Inv.wish (I : Inv X pins σ H s) (E : Value → Shared → Prop) : Inv (X.wish E) pins σ H s := ⟨I.ok.wish E, I.os, I.bare, I.base, I.loc, I.cell, I.free, I.freeC, I.pin, I.hok, I.len⟩
theorem Inv.unwish (I : Inv (X.wish E) pins σ H s) : Inv X pins σ H s := ⟨I.ok.unwish, I.os, I.bare, I.base, I.loc, I.cell, I.free, I.freeC, I.pin, I.hok, I.len⟩
theorem SP.unwish {D : Ends} {f : Flow} {s' : Shared} (h : SP (X.wish E) pins D f s') : SP X pins D f s' := by
  cases f with
  | next => obtain ⟨σ', H', I, q⟩ := h; exact ⟨σ', H', I.unwish, q⟩
  | brk => obtain ⟨σ', H', I, q⟩ := h; exact ⟨σ', H', I.unwish, q⟩
  | cont => obtain ⟨σ', H', I, q⟩ := h; exact ⟨σ', H', I.unwish, q⟩
  | ret u => obtain ⟨v, σ', H', I, r, q⟩ := h; exact ⟨v, σ', H', I.unwish, r, q⟩
theorem PE.nox {e : Expr} {t : TE} (h : PE X.nox e t) : PE X e t := fun pins s σ H Q I hw =>
  wpAny_mono (h pins s σ H Q (I.wish _) hw) (fun _ _ ⟨v, H', I', r, q⟩ => ⟨v, H', I'.unwish, r, q⟩) fun _ _ z => False.elim z
theorem PT.nox {e : Expr} {t : TT} (h : PT X.nox e t) : PT X e t := fun pins s σ H Q I hw =>
  wpAny_mono (h pins s σ H Q (I.wish _) hw) (fun _ _ ⟨H', I', q⟩ => ⟨H', I'.unwish, q⟩) fun _ _ z => False.elim z
theorem PSs.nox {st : List Stmt} {t : TS} (h : PSs X.nox st t) : PSs X st t := fun pins s σ H D I hw =>
  wpAny_mono (h pins s σ H D (I.wish _) hw) (fun _ _ q => q.unwish) fun _ _ z => False.elim z
end

/-! ### blocks and small statements -/
section
variable {X : Cx} {st : Stmt} {rest : List Stmt} {t u : TS} {e : Expr} {te : TE} {pos : Pos}
def tNext : TS := fun D σ H => D.nx σ H
def tSeq (t u : TS) : TS := fun D σ H => t { D with nx := u D } σ H
theorem pss_nil : PSs X [] tNext := fun _ _ σ H _ I h => wpAny_execs_nil ⟨σ, H, I, h⟩
theorem pss_cons (h1 : PS X st t) (h2 : PSs X rest u) : PSs X (st :: rest) (tSeq t u) := by
  intro pins s σ H D I h
  refine wpAny_execs_cons (thn (h1 pins s σ H { D with nx := u D } I h) fun f s1 q => ?_)
  cases f with
  | next =>
    obtain ⟨σ', H', I', q⟩ := q
    exact h2 pins s1 σ' H' D I' q
  | ret v => exact q
  | brk => exact q
  | cont => exact q
theorem pss_one (h1 : PS X st t) : PSs X [st] t := by
  intro pins s σ H D I h
  refine wpAny_execs_cons (thn (h1 pins s σ H D I h) fun f s1 q => ?_)
  cases f with
  | next => exact wpAny_execs_nil q
  | ret v => exact q
  | brk => exact q
  | cont => exact q
def tBreak : TS := fun D σ H => D.bk σ H
def tCont : TS := fun D σ H => D.ct σ H
/-- in a def's body nothing is shown -/
theorem Inv.quiet {pins : List (Addr × Obj)} {σ : St} {H : Hp} {s : Shared} (I : Inv X pins σ H s) : interactive X.env = false := by simp [interactive, I.ok.kind]
/-- an expression whose value is dropped -/
def tDrop (te : TE) : TS := fun D σ H => te σ H fun _ H1 => D.nx σ H1
theorem ps_expr (he : PE X e te) (hs : swapsWith e none pos.line X.env = pure false := by rfl) : PS X (.Expr e pos) (tDrop te) := by
  intro pins s σ H D I h
  exact wpAny_Expr_any (thn (he pins s σ H _ I h) fun v s1 ⟨x, H1, I1, r1, q1⟩ => ⟨σ, H1, I1, q1⟩) I.quiet hs
def tRet (te : TE) : TS := fun D σ H => te σ H D.rt
theorem ps_ret (he : PE X e te) : PS X (.Return (some e) pos) (tRet te) := by
  intro pins s σ H D I h
  exact wpAny_Return_some (thn (he pins s σ H _ I h) fun v s1 ⟨x, H1, I1, r1, q1⟩ => ⟨x, σ, H1, I1, r1, q1⟩)
def tRetN : TS := fun D _ H => D.rt .non H
def tIfS (c : TT) (t u : TS) : TS := fun D σ H => c σ H fun b H1 => if b = true then t D σ H1 else u D σ H1
theorem ps_if {c : Expr} {a b : List Stmt} {tc : TT} (hc : PT X c tc) (ha : PSs X a t) (hb : PSs X b u) : PS X (.If c a b pos) (tIfS tc t u) := by
  intro pins s σ H D I h
  refine wpAny_If (thn (hc pins s σ H _ I h) fun d s1 ⟨H1, I1, q1⟩ => ?_)
  cases d with
  | true => exact ha pins s1 σ H1 D I1 q1
  | false => exact hb pins s1 σ H1 D I1 q1
/-- code that the proof never comes to -/
def tNever : TS := fun _ _ _ => False
end

/-! ### targets -/
abbrev TG := V → St → Hp → (St → Hp → Prop) → Prop
abbrev TGs := List V → St → Hp → (St → Hp → Prop) → Prop
def PG (X : Cx) (target : Expr) (t : TG) : Prop :=
  ∀ (pins : List (Addr × Obj)) (s : Shared) (σ : St) (H : Hp) (v : V) (u : Value) (Q : St → Hp → Prop), Inv X pins σ H s → RelV v u → t v σ H Q →
    wpAny (model X.prog X.w) X.A (assign target X.env u) (fun _ s' => ∃ σ' H', Inv X pins σ' H' s' ∧ Q σ' H') X.xe s
/-- several targets, one after another -/
def PGs (X : Cx) (ts : List Expr) (t : TGs) : Prop :=
  ∀ (pins : List (Addr × Obj)) (s : Shared) (σ : St) (H : Hp) (vs : List V) (us : List Value) (Q : St → Hp → Prop), Inv X pins σ H s → Vals vs us → t vs σ H Q →
    wpAny (model X.prog X.w) X.A (assignInOrder ((assignEach ts X.env).map (·.2)) us) (fun _ s' => ∃ σ' H', Inv X pins σ' H' s' ∧ Q σ' H') X.xe s
/-- o[i] = v, by values -/
abbrev TSet := V → V → V → Hp → (Hp → Prop) → Prop
def PSet (X : Cx) (t : TSet) : Prop :=
  ∀ (pins : List (Addr × Obj)) (s : Shared) (σ : St) (H : Hp) (o i v : V) (ov iv u : Value) (Q : Hp → Prop), Inv X pins σ H s → RelV o ov → RelV i iv → RelV v u → t o i v H Q →
    wpAny (model X.prog X.w) X.A (setItem ov iv u) (fun _ s' => ∃ H', Inv X pins σ H' s' ∧ Q H') X.xe s
/-- a op= b, by values -/
abbrev TIp := V → V → Hp → VK → Prop
def PIp (X : Cx) (op : Operator) (t : TIp) : Prop :=
  ∀ (pins : List (Addr × Obj)) (s : Shared) (σ : St) (H : Hp) (x y : V) (v u : Value) (Q : VK), Inv X pins σ H s → RelV x v → RelV y u → t x y H Q →
    wpAny (model X.prog X.w) X.A (inplaceOp op v u) (EP X pins σ Q) X.xe s
section
variable {X : Cx} {pos : Pos}
def gName (i : Nat) : TG := fun v σ H Q => Q (σ.set i (some v)) H
theorem pg_name {i : Nat} {x : Str} (hN : X.N.Nodup) (hi : X.N[i]? = some x) (hx : Loc X.env.scope x) (hf : X.fn x = true ∨ X.env.scope.names.lookup x = some .local := by first | exact .inl rfl | exact .inr rfl | assumption) : PG X (.Name x pos) (gName i) := by
  intro pins s σ H v u Q I r h
  exact wpAny_assign_Name (store_ok I hN hi hx r (fun s' I' => ⟨_, H, I', h⟩) hf)
def gNil : TGs := fun vs σ H Q => vs = [] ∧ Q σ H
def gCons (t : TG) (u : TGs) : TGs := fun vs σ H Q => ∃ v r, vs = v :: r ∧ t v σ H fun σ' H' => u r σ' H' Q
theorem pgs_nil : PGs X [] gNil := by
  intro pins s σ H vs us Q I r h
  obtain ⟨e, h⟩ := h
  subst e
  cases r
  exact assignInOrder_nil ⟨σ, H, I, h⟩
theorem pgs_cons {e : Expr} {es : List Expr} {t : TG} {u : TGs} (h1 : PG X e t) (h2 : PGs X es u)
    (hs : (assignEach (e :: es) X.env).map (·.2) = assign e X.env :: (assignEach es X.env).map (·.2) := by rfl) : PGs X (e :: es) (gCons t u) := by
  intro pins s σ H vs us Q I r h
  obtain ⟨v, vr, e1, h⟩ := h
  subst e1
  cases r with
  | cons r rr =>
    rw [hs]
    refine assignInOrder_cons (thn (h1 pins s σ H _ _ _ I r h) fun _ s1 ⟨σ1, H1, I1, q1⟩ => ?_)
    exact h2 pins s1 σ1 H1 _ _ Q I1 rr q1
/-- (a, b, ..) = a tuple of that length -/
def gTup (K : PySem.W.Frag) (n : Nat) (t : TGs) : TG := fun v σ H Q => ∃ a xs, v = .ref a ∧ SqT K H a xs ∧ xs.length = n ∧ t xs σ H Q
theorem pg_tup {es : List Expr} {k : Nat} {t : TGs} {n : Nat} (hc : X.calm = true) (h : PGs X es t)
    (hn : (assignEach es X.env).length = n := by rfl) (hst : (assignEach es X.env).findIdx? (·.1) = none := by rfl) : PG X (.Tuple es k pos) (gTup X.K n t) := by
  intro pins s σ H v u Q I r hw
  obtain ⟨a, xs, e1, hq, hl, hw⟩ := hw
  subst e1
  cases r
  obtain ⟨its, rv, ht, hz⟩ := I.tuple hq
  refine assign_Tuple_tuple (I.ok.hd hc) ht (by simp [hn, ← hl, rv.length]) hst fun h' hx => ?_
  have I1 : Inv X pins σ H { s with heap := h' } := I.kept (t' := s.toks) fun b o e => hx b o (Nat.ne_of_lt (Heap.lt_size e)) e
  exact h pins _ σ H xs _ Q I1 (by simpa using rv) hw
/-- o[i] = .. -/
def gSub (to ti : TE) (t : TSet) : TG := fun v σ H Q => to σ H fun o H1 => ti σ H1 fun i H2 => t o i v H2 fun H3 => Q σ H3
/-- target = value -/
def tAsg (te : TE) (g : TG) : TS := fun D σ H => te σ H fun x H1 => g x σ H1 D.nx
/-- name = value -/
theorem ps_set {i : Nat} {x : Str} {e : Expr} {te : TE} {pos' : Pos} (hN : X.N.Nodup) (hi : X.N[i]? = some x) (hx : Loc X.env.scope x) (he : PE X e te) (hs : swapsWith e (some (.Name x pos')) pos.line X.env = pure false := by rfl) (hf : X.fn x = true ∨ X.env.scope.names.lookup x = some .local := by first | exact .inl rfl | exact .inr rfl | assumption) :
    PS X (.Assign [.Name x pos'] e pos) (tAsg te (gName i)) := by
  intro pins s σ H D I h
  refine wpAny_Assign_Name (thn (he pins s σ H _ I h) fun v s1 ⟨y, H1, I1, r1, q1⟩ => ?_) hs
  exact store_ok I1 hN hi hx r1 (fun s2 I2 => ⟨_, H1, I2, q1⟩) hf
/-- a, b = x, y with plain local names: stored from the right; the pair itself is not tracked (the opening rows as in PyProof/Rows/TupAssign.lean:23) -/
def tPar (i j : Nat) (ta : TA) : TS := fun D σ H => ta σ H fun vs H1 => ∃ v w, vs = [v, w] ∧ D.nx ((σ.set i (some v)).set j (some w)) H1
/-- name op= e -/
def tAug (i : Nat) (te : TE) (ti : TIp) : TS := fun D σ H => ∃ x, σ[i]? = some (some x) ∧ te σ H fun y H1 => ti x y H1 fun z H2 => D.nx (σ.set i (some z)) H2
/-- o[i] op= e -/
def tAugS (to ti te : TE) (tget : V → V → Hp → VK → Prop) (tip : TIp) (tset : TSet) : TS := fun D σ H => to σ H fun o H1 => ti σ H1 fun i H2 => tget o i H2 fun x H3 => te σ H3 fun y H4 => tip x y H4 fun z H5 => tset o i z H5 fun H6 => D.nx σ H6
/-- o[i], by values -/
def PGet (X : Cx) (t : V → V → Hp → VK → Prop) : Prop :=
  ∀ (pins : List (Addr × Obj)) (s : Shared) (σ : St) (H : Hp) (o i : V) (ov iv : Value) (Q : VK), Inv X pins σ H s → RelV o ov → RelV i iv → t o i H Q →
    wpAny (model X.prog X.w) X.A (getItem ov iv) (EP X pins σ Q) X.xe s
/-- ints -/
def ipI (f : Int → Int → Int) : TIp := fun x y H Q => ∃ i j, x = .int i ∧ y = .int j ∧ Q (.int (f i j)) H
end

/-! ### while -/
section
variable {X : Cx} {pos : Pos}
/-- the invariant W with its measure -/
def tWhile (c : TT) (tb : TS) : TS := fun D σ H => ∃ W : Nat → St → Hp → Prop, (∃ m, W m σ H) ∧ ∀ m σ H, W m σ H →
  c σ H fun b H1 => if b = true then ∃ N : St → Hp → Prop, (∀ σ' H', N σ' H' → ∃ m', m' < m ∧ W m' σ' H') ∧ tb { D with nx := N, ct := N, bk := D.nx } σ H1 else D.nx σ H1
theorem ps_while {c : Expr} {body : List Stmt} {tc : TT} {tb : TS} (hp : PassesOwn (model X.prog X.w) X.A X.env X.xe) (hc : PT X c tc) (hb : PSs X body tb) : PS X (.While c body [] pos) (tWhile tc tb) := by
  intro pins s σ H D I h
  obtain ⟨W, ⟨m0, w0⟩, turn⟩ := h
  refine wpAny_While (codeAny_whileLoop (fun n s' => ∃ σ' H', Inv X pins σ' H' s' ∧ W n σ' H') ?_ m0 ⟨σ, H, I, w0⟩)
  rintro n s1 ⟨σ1, H1, I1, w1⟩
  refine wpAny_passesOwn hp (thn (hc pins s1 σ1 H1 _ I1 (turn n σ1 H1 w1)) fun b s2 ⟨H2, I2, q2⟩ => ?_)
  cases b with
  | true =>
    obtain ⟨N, hN, q2⟩ := q2
    rw [if_pos rfl]
    refine wpAny_passesOwn hp (thn (hb pins s2 σ1 H2 _ I2 q2) fun f s3 q3 => ?_)
    cases f with
    | next =>
      obtain ⟨σ3, H3, I3, n3⟩ := q3
      obtain ⟨m', hm, w3⟩ := hN σ3 H3 n3
      exact ⟨m', hm, σ3, H3, I3, w3⟩
    | cont =>
      obtain ⟨σ3, H3, I3, n3⟩ := q3
      obtain ⟨m', hm, w3⟩ := hN σ3 H3 n3
      exact ⟨m', hm, σ3, H3, I3, w3⟩
    | brk => exact q3
    | ret v => exact q3
  | false =>
    rw [if_neg Bool.false_ne_true]
    exact wpAny_execs_nil ⟨σ1, H2, I2, q2⟩
end

/-! ### what a loop or a comprehension walks -/
/-- at turn i: it yields x (the heap may grow), or it stops -/
structure It where
  go : Nat → Hp → Prop
  yld : Nat → Hp → V → Hp → Prop
  stop : Nat → Hp → Prop
/-- the iterator's own objects may turn: they are not the frame's, not pinned, younger than the entry (or a comprehension's own) -/
def FpOk (X : Cx) (pins : List (Addr × Obj)) (H : Hp) (b : Addr) : Prop :=
  H b = none ∧ b ≠ X.env.locals ∧ b ∉ X.fs ∧ (b ∈ X.ex ∨ X.s₀.heap.objs.size ≤ b) ∧ (∀ x c, X.env.cells.lookup x = some c → c ≠ b) ∧ ∀ p ∈ X.pn ++ pins, p.1 ≠ b
theorem Inv.fpOk {X : Cx} {pins : List (Addr × Obj)} {σ : St} {H H' : Hp} {s : Shared} {b : Addr} (I : Inv X pins σ H s) (hb : s.heap.objs.size ≤ b) (hn : H' b = none) : FpOk X pins H' b := by
  refine ⟨hn, Nat.ne_of_gt (Nat.lt_of_lt_of_le I.lt hb), I.nofs hb, .inr (Nat.le_trans I.sz hb), fun x c e z => ?_, fun p hp z => ?_⟩
  · obtain ⟨v, q⟩ := I.cell x c e
    exact absurd (Nat.lt_of_lt_of_le q.lt (by rw [z]; exact hb)) (Nat.lt_irrefl _)
  · exact absurd (Nat.lt_of_lt_of_le (Heap.lt_size (I.pin p hp).1) (by rw [z]; exact hb)) (Nat.lt_irrefl _)
structure Turn (P : Program) (w : World) (K : PySem.W.Frag) (tg : Expr) (J : It) (fp : List Addr) (it : Addr) (tn : Nat → Heap → Prop) : Prop where
  mem : it ∈ fp
  obj : ∀ i h, tn i h → ∀ b ∈ fp, ∃ o, h.get? b = some o ∧ ∀ v, o.data ≠ .cell v
  keep : ∀ i h h', tn i h → (∀ b ∈ fp, ∀ o, h.get? b = some o → h'.get? b = some o) → tn i h'
  item : ∀ (X : Cx), X.prog = P → X.w = w → X.K = K → X.calm = true → ∀ (i : Nat) (pins : List (Addr × Obj)) (s : Shared) (σ : St) (H : Hp) (E : Value → Shared → Prop), Inv X pins σ H s → (∀ b ∈ fp, FpOk X pins H b) → tn i s.heap → J.go i H →
    wpAny (model P w) X.A (pyNext (.ref it)) (fun r s1 => ∃ u, r = some u ∧
      wpAny (model P w) X.A (letOwnedTupleGo tg (.ref it) u) (fun _ s2 => ∃ x H', Inv X pins σ H' s2 ∧ RelV x u ∧ J.yld i H x H' ∧ tn (i + 1) s2.heap ∧ ∀ b ∈ fp, H' b = none) E s1) E s
  done : ∀ (X : Cx), X.prog = P → X.w = w → X.K = K → X.calm = true → ∀ (i : Nat) (pins : List (Addr × Obj)) (s : Shared) (σ : St) (H : Hp) (E : Value → Shared → Prop), Inv X pins σ H s → (∀ b ∈ fp, FpOk X pins H b) → tn i s.heap → J.stop i H →
    wpAny (model P w) X.A (pyNext (.ref it)) (fun r s1 => r = none ∧ Inv X pins σ H s1) E s
  self : ∀ (A : Around) (i : Nat) (s : Shared) (Q : Value → Shared → Prop) (E : Value → Shared → Prop), tn i s.heap → Q (.ref it) s → wpAny (model P w) A (pyIter (.ref it)) Q E s
abbrev TI := St → Hp → (It → Hp → Prop) → Prop
/-- an iterator has come -/
def PIE (X : Cx) (pins : List (Addr × Obj)) (σ : St) (tg : Expr) (R : It → Hp → Prop) (itv : Value) (s2 : Shared) : Prop :=
  ∃ (it : Addr) (fp : List Addr) (tn : Nat → Heap → Prop) (J : It) (H' : Hp), itv = .ref it ∧ Inv X pins σ H' s2 ∧ Turn X.prog X.w X.K tg J fp it tn ∧ tn 0 s2.heap ∧ (∀ b ∈ fp, FpOk X pins H' b) ∧ R J H'
def PI (X : Cx) (tg iter : Expr) (wi : TI) : Prop :=
  ∀ (pins : List (Addr × Obj)) (s : Shared) (σ : St) (H : Hp) (R : It → Hp → Prop), Inv X pins σ H s → wi σ H R →
    wpAny (model X.prog X.w) X.A (eval iter X.env) (fun v s1 => wpAny (model X.prog X.w) X.A (pyIter v) (PIE X pins σ tg R) X.xe s1) X.xe s

/-- the step ahead of the store is nothing for an iterator that keeps no tuple -/
theorem go_of {M : Model} {A : Around} {E : Value → Shared → Prop} {s : Shared} {tg : Expr} {it : Addr} {u : Value} {o : Obj} {n : String} {vs : Array Value} {Q : Unit → Shared → Prop} (ho : s.heap.get? it = some o) (hc : o.cls = .type n) (hd : o.data = .fields vs)
    (hn : ["enumerate", "zip", "dict_itemiterator", "dict_reverseitemiterator", "odict_iterator", "itertools.zip_longest", "itertools.pairwise"].contains n = false) (hQ : Q () s) : wpAny M A (letOwnedTupleGo tg (.ref it) u) Q E s := by
  unfold letOwnedTupleGo
  cases tg <;> first
    | exact wpAny_pure hQ
    | (cases u <;> first
        | exact wpAny_pure hQ
        | (refine wpAny_bind (wpAny_load ho ?_)
           rw [hc, hd]
           show wpAny M A (if (["enumerate", "zip", "dict_itemiterator", "dict_reverseitemiterator", "odict_iterator", "itertools.zip_longest", "itertools.pairwise"].contains n && vs[0]? == some (rawInt _)) = true then _ else _) Q E s
           rw [if_neg (by intro h; rw [hn, Bool.false_and] at h; cases h)]
           exact wpAny_pure hQ))

/-- the list at a, as it stands at each turn (a loop may append to it) -/
def Itl (K : PySem.W.Frag) (a : Addr) : It :=
  ⟨fun i H => ∃ xs x, SqL K H a xs ∧ xs[i]? = some x, fun i H x H' => H' = H ∧ ∀ xs, SqL K H a xs → xs[i]? = some x, fun i H => ∃ xs, SqL K H a xs ∧ xs.length ≤ i⟩
def Itt (K : PySem.W.Frag) (a : Addr) : It :=
  ⟨fun i H => ∃ xs x, SqT K H a xs ∧ xs[i]? = some x, fun i H x H' => H' = H ∧ ∀ xs, SqT K H a xs → xs[i]? = some x, fun i H => ∃ xs, SqT K H a xs ∧ xs.length ≤ i⟩
/-- lo, lo + 1, .. (n of them) -/
def Itr (lo : Int) (n : Nat) : It := ⟨fun i _ => i < n, fun i H x H' => H' = H ∧ x = .int (lo + i), fun i _ => n ≤ i⟩
theorem turn_list {P : Program} {w : World} {K : PySem.W.Frag} {tg : Expr} (a it : Addr) : Turn P w K tg (Itl K a) [it] it (fun i h => h.IsListIter it a i) where
  mem := by simp
  obj := fun i h st b hb => by
    have e : b = it := by simpa using hb
    subst e
    obtain ⟨o, e, c, d⟩ := st
    exact ⟨o, e, fun v z => by rw [d] at z; cases z⟩
  keep := fun i h h' st k => st.at fun o e => k it (by simp) o e
  item := by
    intro X hP hw hK hc i pins s σ H E I hf st hg
    subst hP hw hK
    obtain ⟨xs, x, hq, hx⟩ := hg
    obtain ⟨its, rv, p, hz⟩ := I.list hq
    obtain ⟨u, hu, ru⟩ := rv.get hx
    obtain ⟨f0, f1, f2, f3, f4, f5⟩ := hf it (by simp)
    refine wpAny_pyNext_list_item st p.isList (x := u) (by simpa using hu) fun h' st' sb => ?_
    have I1 : Inv X pins σ H { s with heap := h' } := I.turned (t' := s.toks) (fun b o hb e => (sb.2 b hb).trans e) f0 f1 f3 f4 f5
    obtain ⟨o, e, c, d⟩ := id st'
    exact ⟨u, rfl, go_of (s := { s with heap := h' }) e c d (by decide) ⟨x, H, I1, ru, ⟨rfl, fun ys hy => by rw [I.list_inj hy hq]; exact hx⟩, st', fun b hb => (hf b hb).1⟩⟩
  done := by
    intro X hP hw hK hc i pins s σ H E I hf st hg
    subst hP hw hK
    obtain ⟨xs, hq, hx⟩ := hg
    obtain ⟨its, rv, p, hz⟩ := I.list hq
    obtain ⟨f0, f1, f2, f3, f4, f5⟩ := hf it (by simp)
    have hl := rv.length
    exact wpAny_pyNext_list_end (I.ok.hd hc) st p.isList (by simp; omega) fun h' eb => ⟨rfl, I.turned (t' := s.toks) (fun b o hb e => eb b o hb e) f0 f1 f3 f4 f5⟩
  self := fun _ _ _ _ _ st h => wpAny_pyIter_listiter st h
theorem turn_range {P : Program} {w : World} {K : PySem.W.Frag} {tg : Expr} (it : Addr) (lo : Int) (n : Nat) : Turn P w K tg (Itr lo n) [it] it (fun i h => IsRangeIter h it (lo + (i : Nat) * 1) ((n : Int) - (i : Nat)) 1) where
  mem := by simp
  obj := fun i h st b hb => by
    have e : b = it := by simpa using hb
    subst e
    exact ⟨_, st, fun v z => by
      have z' : Data.fields _ = Data.cell v := z
      cases z'⟩
  keep := fun i h h' st k => k it (by simp) _ st
  item := by
    intro X hP hw hK hc i pins s σ H E I hf st hg
    subst hP hw hK
    obtain ⟨f0, f1, f2, f3, f4, f5⟩ := hf it (by simp)
    have W := Walks.range (prog := X.prog) (w := X.w) (I.ok.hd hc) it lo 1 n
    refine W.item i s _ _ hg st fun v h' tk hv st' kk => ?_
    obtain ⟨t, rfl⟩ := hv
    have I1 : Inv X pins σ H { s with heap := h', toks := tk } := I.turned (fun b o hb e => kk b o (by simpa using hb) e) f0 f1 f3 f4 f5
    refine ⟨_, rfl, go_of (s := { s with heap := h', toks := tk }) (n := "range_iterator") st' rfl rfl (by decide) ⟨.int (lo + i), H, I1, ⟨t, ?_⟩, ⟨rfl, rfl⟩, st', fun b hb => (hf b hb).1⟩⟩
    rw [Int.mul_one]
  done := by
    intro X hP hw hK hc i pins s σ H E I hf st hg
    subst hP hw hK
    obtain ⟨f0, f1, f2, f3, f4, f5⟩ := hf it (by simp)
    exact wpAny_pyNext_range_end (I.ok.hd hc) st (by have : n ≤ i := hg; omega) fun h' eb => ⟨rfl, I.turned (t' := s.toks) (fun b o hb e => eb b o hb e) f0 f1 f3 f4 f5⟩
  self := fun _ _ _ _ _ st h => wpAny_pyIter_rangeiter st h
end L2

namespace L2
open PySem PySem.Spec PyProof.Rows
section
variable {X : Cx} {tg : Expr}
def iList (K : PySem.W.Frag) (tl : TE) : TI := fun σ H R => tl σ H fun x H1 => ∃ a, x = .ref a ∧ (∃ xs, SqL K H1 a xs) ∧ R (Itl K a) H1
def iTup (K : PySem.W.Frag) (tl : TE) : TI := fun σ H R => tl σ H fun x H1 => ∃ a, x = .ref a ∧ (∃ xs, SqT K H1 a xs) ∧ R (Itt K a) H1
theorem pi_list {l : Expr} {tl : TE} (hl : PE X l tl) : PI X tg l (iList X.K tl) := by
  intro pins s σ H R I h
  refine thn (hl pins s σ H _ I h) fun v s1 ⟨x, H1, I1, r1, q1⟩ => ?_
  obtain ⟨a, e, ⟨xs, hq⟩, q⟩ := q1
  subst e
  cases r1
  obtain ⟨its, rv, p, hz⟩ := I1.list hq
  refine wpAny_pyIter_list p.isList ?_
  refine ⟨s1.heap.objs.size, [s1.heap.objs.size], _, _, H1, rfl, I1.kept (t' := s1.toks) fun b o e => Heap.get?_push_of_some _ e, turn_list a _, ⟨_, Heap.get?_push_size _ rfl, rfl, rfl⟩, fun b hb => ?_, q⟩
  have e : b = s1.heap.objs.size := by simpa using hb
  subst e
  exact I1.fpOk (Nat.le_refl _) (I1.hok.fresh (Nat.le_refl _))
/-- a range object just made, walked -/
theorem range_it {pins : List (Addr × Obj)} {σ : St} {H : Hp} {s : Shared} {R : It → Hp → Prop} {E : Value → Shared → Prop} {lo hi : Int} {t u v : Tok} {tk : Nat} (I : Inv X pins σ H s) (h1 : -(2 ^ 62) ≤ lo) (h2 : lo < 2 ^ 62) (h3 : -(2 ^ 62) ≤ hi) (h4 : hi < 2 ^ 62)
    (q : R (Itr lo (hi - lo).toNat) H) : wpAny (model X.prog X.w) X.A (pyIter (.ref s.heap.objs.size)) (PIE X pins σ tg R) E { s with heap := s.heap.push { cls := .type "range", data := .fields #[.int lo t, .int hi u, .int 1 v] }, toks := tk } := by
  refine wpAny_pyIter_range (IsRange.new ..) (small_one h1 h2 h3 h4) ?_
  have I1 : Inv X pins σ H { s with heap := s.heap.push { cls := .type "range", data := .fields #[.int lo t, .int hi u, .int 1 v] }, toks := tk } := I.kept fun b o e => Heap.get?_push_of_some _ e
  refine ⟨(s.heap.push { cls := .type "range", data := .fields #[.int lo t, .int hi u, .int 1 v] }).objs.size, [(s.heap.push { cls := .type "range", data := .fields #[.int lo t, .int hi u, .int 1 v] }).objs.size], _, _, H, rfl,
    I1.kept (t' := tk) fun b o e => Heap.get?_push_of_some _ e, turn_range _ lo (hi - lo).toNat, ?_, fun b hb => ?_, q⟩
  · have e1 : lo + ((0 : Nat) : Int) * 1 = lo := by simp
    have e2 : (((hi - lo).toNat : Nat) : Int) - ((0 : Nat) : Int) = Builtin.Range.rangeSize lo hi 1 := by rw [rangeSize_one]; split <;> omega
    show IsRangeIter _ _ (lo + ((0 : Nat) : Int) * 1) ((((hi - lo).toNat : Nat) : Int) - ((0 : Nat) : Int)) 1
    rw [e1, e2]
    exact Heap.get?_push_size _ rfl
  · have e : b = (s.heap.push { cls := .type "range", data := .fields #[.int lo t, .int hi u, .int 1 v] }).objs.size := by simpa using hb
    subst e
    exact I1.fpOk (Nat.le_refl _) (I1.hok.fresh (Nat.le_refl _))
def iRng1 (ta : TA) : TI := fun σ H R => ta σ H fun vs H1 => ∃ j : Int, vs = [.int j] ∧ -(2 ^ 62) ≤ j ∧ j < 2 ^ 62 ∧ R (Itr 0 j.toNat) H1
def iRng2 (ta : TA) : TI := fun σ H R => ta σ H fun vs H1 => ∃ i j : Int, vs = [.int i, .int j] ∧ (-(2 ^ 62) ≤ i ∧ i < 2 ^ 62 ∧ -(2 ^ 62) ≤ j ∧ j < 2 ^ 62) ∧ R (Itr i (j - i).toNat) H1
theorem pi_range1 {a : Expr} {ta : TA} {p pos : Pos} (hg : Gl X "range") (hm : X.mg "range" = none) (ha : PA X [a] ta) (hs : starEach [a] X.env = [(false, eval a X.env)] := by rfl) : PI X tg (.Call (.Name "range" p) [a] [] pos) (iRng1 ta) := by
  intro pins s σ H R I h
  refine Call_ (ld_blt I hg hm boot_range (PyProof.Rows.callWith_type1 (thn (ha pos pins s σ H _ I h) fun us s1 ⟨vs, H1, I1, r1, q1⟩ => ?_) hs rfl))
  obtain ⟨j, e, q1, q2, q⟩ := q1
  subst e
  cases r1 with
  | cons r rr =>
    cases rr
    obtain ⟨t, rfl⟩ := r
    exact call_range_1 (range_it I1 (by omega) (by omega) q1 q2 (by simpa using q))
theorem pi_range2 {a b : Expr} {ta : TA} {p pos : Pos} (hg : Gl X "range") (hm : X.mg "range" = none) (ha : PA X [a, b] ta) (hs : starEach [a, b] X.env = [(false, eval a X.env), (false, eval b X.env)] := by rfl) (hs2 : starEach [b] X.env = [(false, eval b X.env)] := by rfl) :
    PI X tg (.Call (.Name "range" p) [a, b] [] pos) (iRng2 ta) := by
  intro pins s σ H R I h
  refine Call_ (ld_blt I hg hm boot_range (PyProof.Rows.callWith_type1 (thn (ha pos pins s σ H _ I h) fun us s1 ⟨vs, H1, I1, r1, q1⟩ => ?_) (by rw [hs, hs2]) (by rw [hs2]; rfl)))
  obtain ⟨i, j, e, ⟨q1, q2, q3, q4⟩, q⟩ := q1
  subst e
  cases r1 with
  | cons r rr =>
    cases rr with
    | cons r' rr =>
      cases rr
      obtain ⟨t, rfl⟩ := r
      obtain ⟨t', rfl⟩ := r'
      exact call_range_2 (range_it I1 q1 q2 q3 q4 q)

/-! ### for -/
/-- W: the invariant by the turn and a measure; N: what the body is to reach -/
def tFor (wi : TI) (g : TG) (tb : TS) : TS := fun D σ H => wi σ H fun J H1 => ∃ W : Nat → Nat → St → Hp → Prop, (∃ m, W 0 m σ H1) ∧ ∀ i m σ H, W i m σ H →
  (J.stop i H ∧ D.nx σ H) ∨ (J.go i H ∧ ∃ N : St → Hp → Prop, (∀ σ' H', N σ' H' → ∃ m', m' < m ∧ W (i + 1) m' σ' H') ∧ ∀ x H', J.yld i H x H' → g x σ H' fun σ2 H2 => tb { D with nx := N, ct := N, bk := D.nx } σ2 H2)
/-- the records at fp as they stand -/
def pinsAt (fp : List Addr) (h : Heap) : List (Addr × Obj) := fp.filterMap fun b => (h.get? b).map fun o => (b, o)
theorem mem_pinsAt {fp : List Addr} {h : Heap} {b : Addr} {o : Obj} (hb : b ∈ fp) (e : h.get? b = some o) : (b, o) ∈ pinsAt fp h := List.mem_filterMap.mpr ⟨b, hb, by rw [e]; rfl⟩
theorem of_pinsAt {fp : List Addr} {h : Heap} {p : Addr × Obj} (hp : p ∈ pinsAt fp h) : p.1 ∈ fp ∧ h.get? p.1 = some p.2 := by
  obtain ⟨b, hb, e⟩ := List.mem_filterMap.mp hp
  cases q : h.get? b with
  | none => rw [q] at e; cases e
  | some o =>
    rw [q] at e
    have e' : (b, o) = p := Option.some.inj e
    subst e'
    exact ⟨hb, q⟩
theorem Inv.pinned {pins : List (Addr × Obj)} {σ : St} {H : Hp} {s : Shared} {fp : List Addr} (I : Inv X pins σ H s) (hf : ∀ b ∈ fp, FpOk X pins H b) (ho : ∀ b ∈ fp, ∃ o, s.heap.get? b = some o ∧ ∀ v, o.data ≠ .cell v) : Inv X (pins ++ pinsAt fp s.heap) σ H s :=
  I.pins_of fun p hp => (List.mem_append.mp hp).elim (fun z => I.pin p (List.mem_append_right _ z)) fun z => by
    obtain ⟨hb, e⟩ := of_pinsAt z
    obtain ⟨f0, f1, f2, _⟩ := hf p.1 hb
    obtain ⟨o, e', d⟩ := ho p.1 hb
    rw [e] at e'; cases e'
    exact ⟨e, f0, f1, f2, d⟩
theorem Inv.unpinned {pins pl : List (Addr × Obj)} {σ : St} {H : Hp} {s : Shared} (I : Inv X (pins ++ pl) σ H s) : Inv X pins σ H s := I.pins_of fun p hp => I.pin p (List.mem_append_right _ (List.mem_append_left _ hp))
theorem ps_for {iter : Expr} {body : List Stmt} {wi : TI} {g : TG} {tb : TS} {pos : Pos} (hp : PassesOwn (model X.prog X.w) X.A X.env X.xe) (hc : X.calm = true) (hi : PI X tg iter wi) (hg : PG X tg g) (hb : PSs X body tb)
    (hs : ∀ x, foldedSetIterable iter X.env x = pure x := by intro _; rfl) : PS X (.For tg iter body [] pos) (tFor wi g tb) := by
  intro pins s σ H D I h
  refine wpAny_For (thn (hi pins s σ H _ I h) fun v s1 h1 => thn h1 fun itv s2 h2 => ?_) hs
  obtain ⟨it, fp, tn, J, H2, e, I2, T, st2, f2, W, ⟨m0, w0⟩, turn⟩ := h2
  subst e
  -- what stays true of the iterator's objects through the loop
  have stat : ∀ {H' : Hp}, (∀ b ∈ fp, H' b = none) → ∀ b ∈ fp, FpOk X pins H' b := fun hn b hb => ⟨hn b hb, (f2 b hb).2⟩
  refine codeAny_forLoop_any (fun n s' => ∃ i σ' H', Inv X pins σ' H' s' ∧ tn i s'.heap ∧ (∀ b ∈ fp, H' b = none) ∧ W i n σ' H') ?_ m0 ⟨0, σ, H2, I2, st2, fun b hb => (f2 b hb).1, w0⟩
  rintro n s3 ⟨i, σ3, H3, I3, st3, fr3, w3⟩
  rcases turn i n σ3 H3 w3 with ⟨stop, qn⟩ | ⟨go, N, hN, step⟩
  · refine wpAny_passesOwn hp (thn (T.done X rfl rfl rfl hc i pins s3 σ3 H3 X.xe I3 (stat fr3) st3 stop) fun r s4 ⟨hr, I4⟩ => ?_)
    subst hr
    exact wpAny_execs_nil ⟨σ3, H3, I4, qn⟩
  · refine wpAny_passesOwn hp (thn (T.item X rfl rfl rfl hc i pins s3 σ3 H3 X.xe I3 (stat fr3) st3 go) fun r s4 ⟨u, hr, h4⟩ => ?_)
    subst hr
    refine wpAny_passesOwn hp (thn h4 fun _ s5 ⟨x, H5, I5, r5, y5, st5, fr5⟩ => ?_)
    have I5' := I5.pinned (stat fr5) (T.obj _ _ st5)
    refine wpAny_passesOwn hp (thn (hg _ s5 σ3 H5 x u _ I5' r5 (step x H5 y5)) fun _ s6 ⟨σ6, H6, I6, q6⟩ => ?_)
    refine wpAny_passesOwn hp (thn (hb _ s6 σ6 H6 _ I6 q6) fun f s7 q7 => ?_)
    have again : ∀ {σ7 : St} {H7 : Hp}, Inv X (pins ++ pinsAt fp s5.heap) σ7 H7 s7 → N σ7 H7 → ∃ m, m < n ∧ ∃ i σ' H', Inv X pins σ' H' s7 ∧ tn i s7.heap ∧ (∀ b ∈ fp, H' b = none) ∧ W i m σ' H' := fun {σ7 H7} I7 n7 => by
      obtain ⟨m', hm, w7⟩ := hN σ7 H7 n7
      refine ⟨m', hm, i + 1, σ7, H7, I7.unpinned, T.keep _ _ _ st5 fun b hb o e => (I7.pin (b, o) (List.mem_append_right _ (List.mem_append_right _ (mem_pinsAt hb e)))).1, fun b hb => ?_, w7⟩
      obtain ⟨o, e, d⟩ := T.obj _ _ st5 b hb
      exact (I7.pin (b, o) (List.mem_append_right _ (List.mem_append_right _ (mem_pinsAt hb e)))).2.1
    cases f with
    | next => obtain ⟨σ7, H7, I7, n7⟩ := q7; exact again I7 n7
    | cont => obtain ⟨σ7, H7, I7, n7⟩ := q7; exact again I7 n7
    | brk => obtain ⟨σ7, H7, I7, q7⟩ := q7; exact ⟨σ7, H7, I7.unpinned, q7⟩
    | ret v => obtain ⟨x7, σ7, H7, I7, r7, q7⟩ := q7; exact ⟨x7, σ7, H7, I7.unpinned, r7, q7⟩
end

/-! ### the forms one uses -/
/-- over a list that the body leaves as it is -/
theorem for_list {K : PySem.W.Frag} {a : Addr} {xs : List V} {g : TG} {tb : TS} {D : Ends} {σ : St} {H : Hp} (Pv : Nat → St → Hp → Prop) (h0 : Pv 0 σ H) (hl : ∀ i σ H, i ≤ xs.length → Pv i σ H → SqL K H a xs)
    (hs : ∀ i x σ H, xs[i]? = some x → Pv i σ H → g x σ H fun σ2 H2 => tb { D with nx := Pv (i + 1), ct := Pv (i + 1), bk := D.nx } σ2 H2) (hd : ∀ σ H, Pv xs.length σ H → D.nx σ H) :
    ∃ W : Nat → Nat → St → Hp → Prop, (∃ m, W 0 m σ H) ∧ ∀ i m σ H, W i m σ H →
      ((Itl K a).stop i H ∧ D.nx σ H) ∨ ((Itl K a).go i H ∧ ∃ N : St → Hp → Prop, (∀ σ' H', N σ' H' → ∃ m', m' < m ∧ W (i + 1) m' σ' H') ∧ ∀ x H', (Itl K a).yld i H x H' → g x σ H' fun σ2 H2 => tb { D with nx := N, ct := N, bk := D.nx } σ2 H2) := by
  refine ⟨fun i m σ H => m = xs.length - i ∧ i ≤ xs.length ∧ Pv i σ H, ⟨xs.length, by simp, Nat.zero_le _, h0⟩, ?_⟩
  rintro i m σ H ⟨rfl, hi, p⟩
  have q := hl i σ H hi p
  by_cases hlt : i < xs.length
  · refine .inr ⟨⟨xs, xs[i], q, by simp [hlt]⟩, Pv (i + 1), fun σ' H' p' => ⟨xs.length - (i + 1), by omega, rfl, hlt, p'⟩, fun x H' y => ?_⟩
    obtain ⟨e, y⟩ := y
    subst e
    exact hs i x σ _ (y xs q) p
  · have e : i = xs.length := by omega
    subst e
    exact .inl ⟨⟨xs, q, Nat.le_refl _⟩, hd σ H p⟩
theorem for_range {lo : Int} {n : Nat} {g : TG} {tb : TS} {D : Ends} {σ : St} {H : Hp} (Pv : Nat → St → Hp → Prop) (h0 : Pv 0 σ H)
    (hs : ∀ i σ H, i < n → Pv i σ H → g (.int (lo + i)) σ H fun σ2 H2 => tb { D with nx := Pv (i + 1), ct := Pv (i + 1), bk := D.nx } σ2 H2) (hd : ∀ σ H, Pv n σ H → D.nx σ H) :
    ∃ W : Nat → Nat → St → Hp → Prop, (∃ m, W 0 m σ H) ∧ ∀ i m σ H, W i m σ H →
      ((Itr lo n).stop i H ∧ D.nx σ H) ∨ ((Itr lo n).go i H ∧ ∃ N : St → Hp → Prop, (∀ σ' H', N σ' H' → ∃ m', m' < m ∧ W (i + 1) m' σ' H') ∧ ∀ x H', (Itr lo n).yld i H x H' → g x σ H' fun σ2 H2 => tb { D with nx := N, ct := N, bk := D.nx } σ2 H2) := by
  refine ⟨fun i m σ H => m = n - i ∧ i ≤ n ∧ Pv i σ H, ⟨n, by simp, Nat.zero_le _, h0⟩, ?_⟩
  rintro i m σ H ⟨rfl, hi, p⟩
  by_cases hlt : i < n
  · refine .inr ⟨hlt, Pv (i + 1), fun σ' H' p' => ⟨n - (i + 1), by omega, rfl, hlt, p'⟩, fun x H' y => ?_⟩
    obtain ⟨e, y⟩ := y
    subst e y
    exact hs i σ _ hlt p
  · have e : i = n := by omega
    subst e
    exact .inl ⟨Nat.le_refl _, hd σ H p⟩
end L2

namespace L2
open PySem PySem.Spec PyProof.Rows

abbrev R2 := V → V → Hp → VK → Prop
/-- a two-place operation on values: f is binaryOp op, inplaceOp op or compareOp op -/
def OpR (X : Cx) (f : Value → Value → Sem Value) (r : R2) : Prop :=
  ∀ (pins : List (Addr × Obj)) (s : Shared) (σ : St) (H : Hp) (x y : V) (v u : Value) (Q : VK), Inv X pins σ H s → RelV x v → RelV y u → r x y H Q →
    wpAny (model X.prog X.w) X.A (f v u) (EP X pins σ Q) X.xe s
/-- a one-place operation -/
def UnR (X : Cx) (f : Value → Sem Value) (r : V → Hp → VK → Prop) : Prop :=
  ∀ (pins : List (Addr × Obj)) (s : Shared) (σ : St) (H : Hp) (x : V) (v : Value) (Q : VK), Inv X pins σ H s → RelV x v → r x H Q →
    wpAny (model X.prog X.w) X.A (f v) (EP X pins σ Q) X.xe s
/-- a call of a value that is known (a builtin, a type) with values -/
def CallR (X : Cx) (f : Value) (r : List V → Hp → VK → Prop) : Prop :=
  ∀ (pins : List (Addr × Obj)) (s : Shared) (σ : St) (H : Hp) (xs : List V) (us : List Value) (Q : VK), Inv X pins σ H s → Vals xs us → r xs H Q →
    wpAny (model X.prog X.w) X.A (call f us) (EP X pins σ Q) X.xe s
/-- a value's truth -/
def TruR (X : Cx) (r : V → Hp → (Bool → Hp → Prop) → Prop) : Prop :=
  ∀ (pins : List (Addr × Obj)) (s : Shared) (σ : St) (H : Hp) (x : V) (v : Value) (Q : Bool → Hp → Prop), Inv X pins σ H s → RelV x v → r x H Q →
    wpAny (model X.prog X.w) X.A (truthy v) (TP X pins σ Q) X.xe s

def tOp (r : R2) (ta tb : TE) : TE := fun σ H Q => ta σ H fun x H1 => tb σ H1 fun y H2 => r x y H2 Q
def tUn (r : V → Hp → VK → Prop) (ta : TE) : TE := fun σ H Q => ta σ H fun x H1 => r x H1 Q
/-- ints in, under C, and a value out -/
def rI (C : Int → Int → Prop) (g : Int → Int → V) : R2 := fun x y H Q => ∃ i j, x = .int i ∧ y = .int j ∧ C i j ∧ Q (g i j) H
def rI0 (g : Int → Int → V) : R2 := fun x y H Q => ∃ i j, x = .int i ∧ y = .int j ∧ Q (g i j) H
def rU (g : Int → V) : V → Hp → VK → Prop := fun x H Q => ∃ i, x = .int i ∧ Q (g i) H

section
variable {X : Cx} {a b c : Expr} {ta tb tc : TE} {pos : Pos}

theorem binT (ha : PE X a ta) (hb : PE X b tb) {pins : List (Addr × Obj)} {s : Shared} {σ : St} {H : Hp} {R : V → V → Hp → Prop} (I : Inv X pins σ H s)
    (h : ta σ H fun x H1 => tb σ H1 fun y H2 => R x y H2) {Q : Value → Shared → Prop} {f : Value → Value → Sem Value}
    (hf : ∀ v u s2 x y H2, Inv X pins σ H2 s2 → RelV x v → RelV y u → R x y H2 → wpAny (model X.prog X.w) X.A (f v u) Q X.xe s2) :
    wpAny (model X.prog X.w) X.A (eval a X.env) (fun v s₁ => wpAny (model X.prog X.w) X.A (eval b X.env) (fun u s₂ => wpAny (model X.prog X.w) X.A (f v u) Q X.xe s₂) X.xe s₁) X.xe s := by
  refine thn (ha pins s σ H _ I h) fun v s1 ⟨x, H1, I1, r1, q1⟩ => ?_
  refine thn (hb pins s1 σ H1 _ I1 q1) fun u s2 ⟨y, H2, I2, r2, q2⟩ => ?_
  exact hf v u s2 x y H2 I2 r1 r2 q2

theorem pe_op {op : Operator} {r : R2} (ho : OpR X (binaryOp op) r) (ha : PE X a ta) (hb : PE X b tb) : PE X (.BinOp a op b pos) (tOp r ta tb) := by
  intro pins s σ H Q I h
  exact wpAny_BinOp (binT ha hb I h fun v u s2 x y H2 I2 rx ry q => ho pins s2 σ H2 x y v u Q I2 rx ry q)
theorem pe_un {op : UnaryOp} {r : V → Hp → VK → Prop} (ho : UnR X (unaryOp op) r) (ha : PE X a ta) : PE X (.UnaryOp op a pos) (tUn r ta) := by
  intro pins s σ H Q I h
  exact UnaryOp_ (thn (ha pins s σ H _ I h) fun v s1 ⟨x, H1, I1, r1, q1⟩ => ho pins s1 σ H1 x v Q I1 r1 q1)
/-! ### ints -/
theorem opI {f : Value → Value → Sem Value} {C : Int → Int → Prop} {g : Int → Int → Int}
    (rule : ∀ (i j : Int) (t u : Tok) (s : Shared) (Q : Value → Shared → Prop) (E : Value → Shared → Prop), C i j → Q (.int (g i j) s.toks) { s with toks := s.toks + 1 } → wpAny (model X.prog X.w) X.A (f (.int i t) (.int j u)) Q E s) :
    OpR X f (rI C fun i j => .int (g i j)) := by
  intro pins s σ H x y v u Q I rx ry h
  obtain ⟨i, j, rfl, rfl, hc, q⟩ := h
  obtain ⟨t, rfl⟩ := rx
  obtain ⟨t', rfl⟩ := ry
  exact rule i j t t' s _ _ hc ⟨.int (g i j), H, I.tok _, ⟨_, rfl⟩, q⟩
theorem opI0 {f : Value → Value → Sem Value} {g : Int → Int → Int}
    (rule : ∀ (i j : Int) (t u : Tok) (s : Shared) (Q : Value → Shared → Prop) (E : Value → Shared → Prop), Q (.int (g i j) s.toks) { s with toks := s.toks + 1 } → wpAny (model X.prog X.w) X.A (f (.int i t) (.int j u)) Q E s) :
    OpR X f (rI0 fun i j => .int (g i j)) := by
  intro pins s σ H x y v u Q I rx ry h
  obtain ⟨i, j, rfl, rfl, q⟩ := h
  obtain ⟨t, rfl⟩ := rx
  obtain ⟨t', rfl⟩ := ry
  exact rule i j t t' s _ _ ⟨.int (g i j), H, I.tok _, ⟨_, rfl⟩, q⟩
theorem opB0 {f : Value → Value → Sem Value} {g : Int → Int → Bool}
    (rule : ∀ (i j : Int) (t u : Tok) (s : Shared) (Q : Value → Shared → Prop) (E : Value → Shared → Prop), Q (.bool (g i j)) s → wpAny (model X.prog X.w) X.A (f (.int i t) (.int j u)) Q E s) :
    OpR X f (rI0 fun i j => .bl (g i j)) := by
  intro pins s σ H x y v u Q I rx ry h
  obtain ⟨i, j, rfl, rfl, q⟩ := h
  obtain ⟨t, rfl⟩ := rx
  obtain ⟨t', rfl⟩ := ry
  exact rule i j t t' s _ _ ⟨.bl (g i j), H, I, rfl, q⟩

def CDiv (i j : Int) : Prop := 0 < j ∧ j < 1073741824
def CDivN (i j : Int) : Prop := j ≠ 0 ∧ j.natAbs < 1073741824
def CPow (i j : Int) : Prop := 0 ≤ j ∧ j ≤ 1000000 ∧ i.natAbs < 2 ^ 64
def CMul (i j : Int) : Prop := (-(2 ^ 64) < i ∧ i < 2 ^ 64) ∨ (-(2 ^ 64) < j ∧ j < 2 ^ 64)
theorem CMul.ok {i j : Int} (h : CMul i j) : IntMulOk i j := by
  rcases h with ⟨h1, h2⟩ | ⟨h1, h2⟩
  · exact .of_left (intBits_le_64 h1 h2)
  · exact .of_right (intBits_le_64 h1 h2)
theorem op_add : OpR X (binaryOp .Add) (rI0 fun i j => .int (i + j)) := opI0 fun _ _ _ _ _ _ _ q => add_int q
theorem op_sub : OpR X (binaryOp .Sub) (rI0 fun i j => .int (i - j)) := opI0 fun _ _ _ _ _ _ _ q => sub_int q
theorem op_mul : OpR X (binaryOp .Mult) (rI CMul fun i j => .int (i * j)) := opI fun _ _ _ _ _ _ _ hc q => mul_int q hc.ok
/-- % by a positive divisor of any size -/
theorem op_mod : OpR X (binaryOp .Mod) (rI (fun _ j => 0 < j) fun i j => .int (i % j)) := opI fun i j _ _ _ _ _ hc q => by
  have h1 : (0 : Int) < j := hc
  exact mod_int' (by omega) (by rw [Int.fmod_eq_emod_of_nonneg i (by omega)]; exact q)
theorem unI {f : Value → Sem Value} {g : Int → Int}
    (rule : ∀ (i : Int) (t : Tok) (s : Shared) (Q : Value → Shared → Prop) (E : Value → Shared → Prop), Q (.int (g i) s.toks) { s with toks := s.toks + 1 } → wpAny (model X.prog X.w) X.A (f (.int i t)) Q E s) :
    UnR X f (rU fun i => .int (g i)) := by
  intro pins s σ H x v Q I rx h
  obtain ⟨i, rfl, q⟩ := h
  obtain ⟨t, rfl⟩ := rx
  exact rule i t s _ _ ⟨.int (g i), H, I.tok _, ⟨_, rfl⟩, q⟩
theorem un_neg : UnR X (unaryOp .USub) (rU fun i => .int (-i)) := unI fun _ _ _ _ _ q => neg_int q
/-! ### bools among ints: n += (a < b) -/
end

/-! ### comparisons -/
/-- the scalars that == tells apart as data does -/
def scal : V → V → Bool
  | .non, .non => true | .non, .int _ => true | .int _, .non => true | .non, .bl _ => true | .bl _, .non => true | .non, .str _ => true | .str _, .non => true
  | .int _, .int _ => true | .bl _, .bl _ => true | .str _, .str _ => true | .byt _, .byt _ => true
  | .int _, .str _ => true | .str _, .int _ => true | .bl _, .str _ => true | .str _, .bl _ => true
  | _, _ => false
def rEq : R2 := fun x y H Q => scal x y = true ∧ Q (.bl (decide (x = y))) H
def rNe : R2 := fun x y H Q => scal x y = true ∧ Q (.bl (!decide (x = y))) H

theorem dec_int {i j : Int} : decide (V.int i = V.int j) = (i == j) := by
  rw [Bool.eq_iff_iff]
  simp
theorem dec_bl {i j : Bool} : decide (V.bl i = V.bl j) = (i == j) := by
  rw [Bool.eq_iff_iff]
  simp
theorem dec_str {i j : Str} : decide (V.str i = V.str j) = (i == j) := by
  rw [Bool.eq_iff_iff]
  simp
theorem dec_byt {i j : Array UInt8} : decide (V.byt i = V.byt j) = (i.toList == j.toList) := by
  rw [Bool.eq_iff_iff]
  cases i
  cases j
  simp

section
variable {X : Cx} {a b c : Expr} {ta tb tc : TE} {pos : Pos}
theorem fin_bl {pins : List (Addr × Obj)} {σ : St} {H : Hp} {s : Shared} {Q : VK} {k k' : Bool} (I : Inv X pins σ H s) (q : Q (.bl k) H) (e : k = k') : EP X pins σ Q (.bool k') s := by
  subst e
  exact ⟨.bl k, H, I, rfl, q⟩
theorem op_eq : OpR X (compareOp .Eq) rEq := by
  intro pins s σ H x y v u Q I rx ry h
  obtain ⟨hs, q⟩ := h
  cases x with
  | non =>
    cases rx
    cases y with
    | non => cases ry; exact PySem.EqNone.eq_none_none (fin_bl I q (by simp))
    | bl j => cases ry; exact PySem.EqNone.eq_none_bool (fin_bl I q (by simp))
    | int j => obtain ⟨t', rfl⟩ := ry; exact PySem.EqNone.eq_none_int (fin_bl I q (by simp))
    | str j => obtain ⟨t', rfl⟩ := ry; exact PySem.EqNone.eq_none_str (fin_bl I q (by simp))
    | _ => exact absurd (show false = true from hs) Bool.false_ne_true
  | bl i =>
    cases rx
    cases y with
    | non => cases ry; exact PySem.EqNone.eq_bool_none (fin_bl I q (by simp))
    | bl j => cases ry; exact eq_bool (fin_bl I q dec_bl)
    | str j => obtain ⟨t', rfl⟩ := ry; exact PySem.EqMixed.eq_bool_str (fin_bl I q (by simp))
    | _ => exact absurd (show false = true from hs) Bool.false_ne_true
  | int i =>
    obtain ⟨t, rfl⟩ := rx
    cases y with
    | non => cases ry; exact PySem.EqNone.eq_int_none (fin_bl I q (by simp))
    | int j => obtain ⟨t', rfl⟩ := ry; exact eq_int (fin_bl I q dec_int)
    | str j => obtain ⟨t', rfl⟩ := ry; exact PySem.EqMixed.eq_int_str (fin_bl I q (by simp))
    | _ => exact absurd (show false = true from hs) Bool.false_ne_true
  | str i =>
    obtain ⟨t, rfl⟩ := rx
    cases y with
    | non => cases ry; exact PySem.EqNone.eq_str_none (fin_bl I q (by simp))
    | bl j => cases ry; exact PySem.EqMixed.eq_str_bool (fin_bl I q (by simp))
    | int j => obtain ⟨t', rfl⟩ := ry; exact PySem.EqMixed.eq_str_int (fin_bl I q (by simp))
    | str j => obtain ⟨t', rfl⟩ := ry; exact eq_str (fin_bl I q dec_str)
    | _ => exact absurd (show false = true from hs) Bool.false_ne_true
  | byt i =>
    obtain ⟨t, rfl⟩ := rx
    cases y with
    | byt j => obtain ⟨t', rfl⟩ := ry; exact PySem.W.eq_bytes (fin_bl I q dec_byt)
    | _ => exact absurd (show false = true from hs) Bool.false_ne_true
  | _ => cases y <;> exact absurd (show false = true from hs) Bool.false_ne_true
theorem op_ne : OpR X (compareOp .NotEq) rNe := by
  intro pins s σ H x y v u Q I rx ry h
  obtain ⟨hs, q⟩ := h
  cases x with
  | non =>
    cases rx
    cases y with
    | non => cases ry; exact PySem.EqNone.ne_none_none (fin_bl I q (by simp))
    | bl j => cases ry; exact PySem.EqNone.ne_none_bool (fin_bl I q (by simp))
    | int j => obtain ⟨t', rfl⟩ := ry; exact PySem.EqNone.ne_none_int (fin_bl I q (by simp))
    | str j => obtain ⟨t', rfl⟩ := ry; exact PySem.EqNone.ne_none_str (fin_bl I q (by simp))
    | _ => exact absurd (show false = true from hs) Bool.false_ne_true
  | bl i =>
    cases rx
    cases y with
    | non => cases ry; exact PySem.EqNone.ne_bool_none (fin_bl I q (by simp))
    | bl j => cases ry; exact ne_bool (fin_bl I q (congrArg not dec_bl))
    | str j => obtain ⟨t', rfl⟩ := ry; exact PySem.EqMixed.ne_bool_str (fin_bl I q (by simp))
    | _ => exact absurd (show false = true from hs) Bool.false_ne_true
  | int i =>
    obtain ⟨t, rfl⟩ := rx
    cases y with
    | non => cases ry; exact PySem.EqNone.ne_int_none (fin_bl I q (by simp))
    | int j => obtain ⟨t', rfl⟩ := ry; exact ne_int (fin_bl I q (congrArg not dec_int))
    | str j => obtain ⟨t', rfl⟩ := ry; exact PySem.EqMixed.ne_int_str (fin_bl I q (by simp))
    | _ => exact absurd (show false = true from hs) Bool.false_ne_true
  | str i =>
    obtain ⟨t, rfl⟩ := rx
    cases y with
    | non => cases ry; exact PySem.EqNone.ne_str_none (fin_bl I q (by simp))
    | bl j => cases ry; exact PySem.EqMixed.ne_str_bool (fin_bl I q (by simp))
    | int j => obtain ⟨t', rfl⟩ := ry; exact PySem.EqMixed.ne_str_int (fin_bl I q (by simp))
    | str j => obtain ⟨t', rfl⟩ := ry; exact ne_str (fin_bl I q (congrArg not dec_str))
    | _ => exact absurd (show false = true from hs) Bool.false_ne_true
  | byt i =>
    obtain ⟨t, rfl⟩ := rx
    cases y with
    | byt j => obtain ⟨t', rfl⟩ := ry; exact PySem.W.ne_bytes (fin_bl I q (congrArg not dec_byt))
    | _ => exact absurd (show false = true from hs) Bool.false_ne_true
  | _ => cases y <;> exact absurd (show false = true from hs) Bool.false_ne_true

theorem op_lt : OpR X (compareOp .Lt) (rI0 fun i j => .bl (decide (i < j))) := opB0 fun _ _ _ _ _ _ _ q => lt_int q
theorem op_le : OpR X (compareOp .LtE) (rI0 fun i j => .bl (decide (i ≤ j))) := opB0 fun _ _ _ _ _ _ _ q => le_int q
theorem op_gt : OpR X (compareOp .Gt) (rI0 fun i j => .bl (decide (j < i))) := opB0 fun _ _ _ _ _ _ _ q => gt_int q
/-- is None, is not None: the right side a value none -/
theorem op_isN : OpR X (compareOp .Is) (fun x y H Q => y = .non ∧ Q (.bl (decide (x = .non))) H) := by
  intro pins s σ H x y v u Q I rx ry h
  obtain ⟨rfl, q⟩ := h
  cases ry
  refine is_none_gen (fin_bl I q ?_)
  cases x <;> first
    | (cases rx; rfl)
    | (obtain ⟨t, rfl⟩ := rx; rfl)
theorem op_notN : OpR X (compareOp .IsNot) (fun x y H Q => y = .non ∧ Q (.bl (!decide (x = .non))) H) := by
  intro pins s σ H x y v u Q I rx ry h
  obtain ⟨rfl, q⟩ := h
  cases ry
  refine isnot_none_gen (fin_bl I q ?_)
  cases x <;> first
    | (cases rx; rfl)
    | (obtain ⟨t, rfl⟩ := rx; rfl)

/-- is, is not of two objects that are tracked lists or instances -/
def isObj : HO → Bool
  | .lst _ => true
  | .ins _ _ _ => true
  | _ => false
/-- two rules for one operation: by cases -/
theorem OpR.or {f : Value → Value → Sem Value} {r r' : R2} (h : OpR X f r) (h' : OpR X f r') : OpR X f (fun x y H Q => r x y H Q ∨ r' x y H Q) := by
  intro pins s σ H x y v u Q I rx ry q
  rcases q with q | q
  · exact h pins s σ H x y v u Q I rx ry q
  · exact h' pins s σ H x y v u Q I rx ry q

theorem nomark (b : Expr) {op : CmpOp} (h : op ≠ .In := by decide) (h2 : op ≠ .NotIn := by decide) : behindInMarks op b = false := by
  have e1 : (op == CmpOp.In) = false := by cases op <;> first | rfl | exact absurd rfl h
  have e2 : (op == CmpOp.NotIn) = false := by cases op <;> first | rfl | exact absurd rfl h2
  cases b <;> simp [behindInMarks, e1, e2]
/-- a comparison as a value; hm: nomark b, or (for in, not in) by with_unfolding_all rfl -/
theorem pe_cmpR {op : CmpOp} {r : R2} (ho : OpR X (compareOp op) r) (ha : PE X a ta) (hb : PE X b tb) (hm : behindInMarks op b = false) : PE X (.Compare a [op] [b] pos) (tOp r ta tb) := by
  intro pins s σ H Q I h
  exact wpAny_Compare1 (binT ha hb I h fun v u s2 x y H2 I2 rx ry q => ho pins s2 σ H2 x y v u Q I2 rx ry q) hm
/-- a reading of a value as a test -/
def tTest (t : TE) : TT := fun σ H Q => t σ H fun x H' => ∃ k, x = .bl k ∧ Q k H'
theorem pt_cmpR {op : CmpOp} {r : R2} (ho : OpR X (compareOp op) r) (ha : PE X a ta) (hb : PE X b tb) (hm : behindInMarks op b = false) : PT X (.Compare a [op] [b] pos) (tTest (tOp r ta tb)) := by
  intro pins s σ H Q I h
  refine wpAny_isTrue_Compare1 (thn (ha pins s σ H _ I h) fun v s1 ⟨x, H1, I1, r1, q1⟩ => thn (hb pins s1 σ H1 _ I1 q1) fun u s2 ⟨y, H2, I2, r2, q2⟩ =>
    thn (ho pins s2 σ H2 x y v u _ I2 r1 r2 q2) fun c s3 ⟨z, H3, I3, r3, k, e, q3⟩ => ?_) hm
  subst e
  cases r3
  exact wpAny_truthy_bool ⟨H3, I3, q3⟩
/-- a op1 b op2 c -/
def tChain (r r' : R2) (ta tb tc : TE) : TE := fun σ H Q => ta σ H fun x H1 => tb σ H1 fun y H2 => r x y H2 fun z H3 => ∃ k, z = .bl k ∧
  (if k = true then tc σ H3 fun w' H4 => r' y w' H4 Q else Q (.bl false) H3)
theorem pt_chain {op op' : CmpOp} {r r' : R2} (ho : OpR X (compareOp op) r) (ho' : OpR X (compareOp op') r') (ha : PE X a ta) (hb : PE X b tb) (hc : PE X c tc)
    (hm : lastMarks [op, op'] [b, c] = false := by with_unfolding_all rfl) : PT X (.Compare a [op, op'] [b, c] pos) (tTest (tChain r r' ta tb tc)) := by
  intro pins s σ H Q I h
  refine isTrue_chain (thn (ha pins s σ H _ I h) fun v s1 ⟨x, H1, I1, r1, q1⟩ => test_link (thn (hb pins s1 σ H1 _ I1 q1) fun u s2 ⟨y, H2, I2, r2, q2⟩ =>
    thn (ho pins s2 σ H2 x y v u _ I2 r1 r2 q2) fun d s3 ⟨z, H3, I3, r3, k, e, q3⟩ => ?_)) hm
  subst e
  cases r3
  refine wpAny_truthy_bool ?_
  cases k with
  | false =>
    obtain ⟨k', e', q'⟩ := q3
    cases e'
    exact ite_ff ⟨H3, I3, q'⟩
  | true =>
    refine ite_tt (test_last (thn (hc pins s3 σ H3 _ I3 q3) fun w' s4 ⟨z', H4, I4, r4, q4⟩ => thn (ho' pins s4 σ H4 y z' u w' _ I4 r2 r4 q4) fun d' s5 ⟨z2, H5, I5, r5, k2, e2, q5⟩ => ?_))
    subst e2
    cases r5
    exact wpAny_truthy_bool ⟨H5, I5, q5⟩

/-! ### truth -/
/-- a value's truth by the abstract heap -/
def TruV (K : PySem.W.Frag) (x : V) (H : Hp) (k : Bool) : Prop :=
  match x with
  | .non => k = false
  | .bl b => k = b
  | .int i => k = (i != 0)
  | .str y => y.length ≤ sizeLine ∧ k = ((y.length : Int) != 0)
  | .byt y => y.size ≤ sizeLine ∧ k = ((y.size : Int) != 0)
  | .ref p => (∃ xs, SqL K H p xs ∧ k = !xs.isEmpty) ∨ (∃ xs, SqT K H p xs ∧ k = !xs.isEmpty) ∨ ∃ kvs, H p = some (.dK kvs) ∧ k = !kvs.isEmpty
  | _ => False
theorem isEmpty_kv {κ : Type} {kvs : List (κ × V)} {vs : List (κ × Value)} (r : KV kvs vs) : (!vs.isEmpty) = !kvs.isEmpty := by
  cases r <;> rfl
theorem isEmpty_of {xs : List V} {its : List Value} (r : Vals xs its) : (!its.toArray.isEmpty) = !xs.isEmpty := by
  cases r <;> simp
theorem line63 : (sizeLine : Nat) < 2 ^ 63 := by rw [sizeLine_eq]; decide
theorem tru_ok : TruR X (fun x H Q => ∃ k, TruV X.K x H k ∧ Q k H) := by
  intro pins s σ H x v Q I rx h
  obtain ⟨k, e, q⟩ := h
  have hl := line63
  have hs : sizeLine = 16777216 := sizeLine_eq
  cases x with
  | non =>
    cases rx
    have e' : k = false := e
    subst e'
    exact truthy_none ⟨H, I, q⟩
  | bl b =>
    cases rx
    have e' : k = b := e
    subst e'
    exact wpAny_truthy_bool ⟨H, I, q⟩
  | int i =>
    obtain ⟨t, rfl⟩ := rx
    have e' : k = (i != 0) := e
    subst e'
    exact PySem.P.truthy_int ⟨H, I, q⟩
  | str y =>
    obtain ⟨t, rfl⟩ := rx
    obtain ⟨hy, e'⟩ : y.length ≤ sizeLine ∧ k = ((y.length : Int) != 0) := e
    subst e'
    exact PySem.P.truthy_str (by omega) ⟨H, I.tok _, q⟩
  | byt y =>
    obtain ⟨t, rfl⟩ := rx
    obtain ⟨hy, e'⟩ : y.size ≤ sizeLine ∧ k = ((y.size : Int) != 0) := e
    subst e'
    exact PySem.W.truthy_bytes (by omega) ⟨H, I.tok _, q⟩
  | ref p =>
    cases rx
    have e' : (∃ xs, SqL X.K H p xs ∧ k = !xs.isEmpty) ∨ (∃ xs, SqT X.K H p xs ∧ k = !xs.isEmpty) ∨ ∃ kvs, H p = some (.dK kvs) ∧ k = !kvs.isEmpty := e
    rcases e' with ⟨xs, hx, e'⟩ | ⟨xs, hx, e'⟩ | ⟨kvs, hx, e'⟩
    · subst e'
      obtain ⟨its, r, pl, hz⟩ := I.list hx
      have hlen := r.length
      exact wpAny_truthy_list pl.isList (by simp only [List.size_toArray]; omega) ⟨H, I.tok _, by rw [isEmpty_of r]; exact q⟩
    · subst e'
      obtain ⟨its, r, pl, hz⟩ := I.tuple hx
      have hlen := r.length
      exact truthy_tuple pl (by simp only [List.size_toArray]; omega) ⟨H, I.tok _, by rw [isEmpty_of r]; exact q⟩
    · subst e'
      obtain ⟨hz, hS, vs, r, m⟩ : kvs.length ≤ sizeLine ∧ (p == sysModules) = false ∧ ∃ vs, KV kvs vs ∧ s.heap.DictOf (mixKind X.prog X.w) p vs := I.hok p _ hx
      have hlen : kvs.length = vs.length := Paired.length r
      exact wpAny_truthy_dict hS m (by omega) ⟨H, I.tok _, by rw [isEmpty_kv r]; exact q⟩
  | _ => exact (show False from e).elim
/-- any expression whose test is its value's truth (a name, a call, a subscript, a field ..: he by fun _ => rfl) -/
theorem pt_truth (ha : PE X a ta) (he : ∀ whole, isTrue a X.env whole = (do let v ← whole; standAt a.pos; holding [v] (truthy v))) :
    PT X a (fun σ H Q => ta σ H fun x H' => ∃ k, TruV X.K x H' k ∧ Q k H') := by
  intro pins s σ H Q I h
  exact isTrue_plain (thn (ha pins s σ H _ I h) fun v s1 ⟨x, H1, I1, r1, q1⟩ => tru_ok pins s1 σ H1 x v Q I1 r1 q1) (he _)

/-! ### strs and bytes -/
def PlainIxT (b : Expr) : Prop := ∀ o i, subscripted b false o i = operate [o, i] (getItem o i)
/-! ### scalar builtins, by CallR -/
theorem vals1 {x : V} {us : List Value} (r : Vals [x] us) : ∃ u, us = [u] ∧ RelV x u := by
  cases r with
  | cons r1 r2 => cases r2; exact ⟨_, rfl, r1⟩
theorem vals2 {x y : V} {us : List Value} (r : Vals [x, y] us) : ∃ u w', us = [u, w'] ∧ RelV x u ∧ RelV y w' := by
  cases r with
  | cons r1 r2 =>
    cases r2 with
    | cons r3 r4 => cases r4; exact ⟨_, _, rfl, r1, r3⟩
/-- len of a str, a bytes, a list, a tuple -/
def LenV (K : PySem.W.Frag) (x : V) (H : Hp) (n : Nat) : Prop :=
  match x with
  | .str y => y.length ≤ sizeLine ∧ n = y.length
  | .byt y => y.size ≤ sizeLine ∧ n = y.size
  | .ref p => (∃ xs, SqL K H p xs ∧ n = xs.length) ∨ ∃ xs, SqT K H p xs ∧ n = xs.length
  | _ => False
end
end L2

namespace L2
open PySem PySem.Spec PyProof.Rows

/-! ### an instance, its attributes a map -/
structure ObjM (h : Heap) (x dx C : Addr) (mA : Str → Option Value) : Prop where
  obj : h.get? x = some (PySem.W.instObj C dx)
  ns : h.Ns1 dx mA
  ne : dx ≠ x

theorem lookIn_ns {h : Heap} {dx : Addr} {mA : Str → Option Value} (n : h.Ns1 dx mA) : ∃ od, h.get? dx = some od ∧ ∀ name, PySem.W.lookIn name od = some (mA name) := by
  obtain ⟨o, es, ep, ho, hd, hk, _, hm⟩ := n
  refine ⟨o, ho, fun name => ?_⟩
  have e := hm name
  unfold nsFind findBy at e
  rw [← Array.find?_toList] at e
  unfold PySem.W.lookIn
  rw [hd]
  dsimp only
  split
  · rename_i y q
    rw [q] at e
    exact congrArg some e
  · rename_i q
    rw [q] at e
    have a : es.toList.any (·.refKey) = false := by
      rw [List.any_eq_false]
      intro y hy
      obtain ⟨z, t, hkey⟩ := hk y (Array.mem_toList_iff.mp hy)
      simp [DictEntry.refKey, hkey]
    have a' : ¬ es.toList.any (·.refKey) = true := by rw [a]; exact Bool.false_ne_true
    rw [if_neg a']
    exact congrArg some e

theorem ObjM.look {h : Heap} {x dx C : Addr} {mA : Str → Option Value} (I : ObjM h x dx C mA) : ∃ od, PySem.W.InstAt h x (PySem.W.instObj C dx) C (some od) ∧ ∀ name, PySem.W.lookIn name od = some (mA name) :=
  let ⟨od, ho, hl⟩ := lookIn_ns I.ns
  ⟨od, ⟨I.obj, rfl, rfl, ho⟩, hl⟩

section
variable {prog : Program} {w : World} {A : Around} {E : Value → Shared → Prop} {s : Shared} {K : PySem.W.Frag} {x dx C f : Addr} {mA : Str → Option Value} {name : Str} {v : Value}

theorem get_map {expr : Bool} {Q : Value → Shared → Prop} (X : K.In s.heap) (I : ObjM s.heap x dx C mA) (hg : PySem.W.plainGet K C name = true) (hh : PySem.W.hasDictIn K C = true)
    (ha : PySem.W.findIn K (.ref C) name = some none) (hv : mA name = some v) (hv' : PySem.W.handedIn v = true) (h : Q v { s with toks := s.toks + 1 }) :
    wpAny (model prog w) A (getAttr (.ref x) name expr) Q E s := by
  obtain ⟨od, J, hl⟩ := I.look
  exact PySem.W.get_value X J (PySem.W.plainGet_of hg).1 (PySem.W.findObj_own hh ha rfl (by rw [hl, hv])) hv' h

theorem get_meth {pl : Sem Bool} {Q : Value × List Value → Shared → Prop} (X : K.In s.heap) (I : ObjM s.heap x dx C mA) (hg : PySem.W.plainGet K C name = true)
    (hf : PySem.W.findIn K (.ref C) name = some (some (.ref f))) (ht : PySem.W.isFn K (.ref f) = true) (hv : mA name = none) (h : Q (.ref f, [.ref x]) s) :
    wpAny (model prog w) A (getMethod (.ref x) name pl) Q E s := by
  obtain ⟨od, J, hl⟩ := I.look
  exact PySem.W.method_fn X J (PySem.W.plainGet_of hg).1 (PySem.W.plainGet_of hg).2 hf (beq_iff_eq.mp ht) (by show (PySem.W.lookIn name od).map (·.isSome) = some false; rw [hl, hv]; rfl) h

theorem set_map {ns : List Str} {Q : Unit → Shared → Prop} (X : K.In s.heap) (I : ObjM s.heap x dx C mA)
    (hs : PySem.W.findIn K (.ref C) "__setattr__" = some (some (.builtin "object.__setattr__"))) (hp : PySem.W.plainOver K C = true) (ht : PySem.W.takerIn K C name = some none) (hh : PySem.W.hasDictIn K C = true)
    (hw : PySem.Within mA ns) (hsz : ns.length ≤ sizeLine)
    (h : ∀ h', ObjM h' x dx C (fun y => if y = name then some v else mA y) → Heap.SameBut dx s.heap h' → Q () { s with heap := h', toks := s.toks + 2 }) :
    wpAny (model prog w) A (setAttr (.ref x) name v) Q E s := by
  obtain ⟨od, J, hl⟩ := I.look
  refine PySem.W.set_plain X J hs (PySem.W.osa_open (s := { s with toks := s.toks + 1 }) (r := none) X J hp ht fun b => ?_)
  obtain ⟨cd, hc, hd'⟩ := PySem.W.any_some hh
  have hx : s.heap.get? x = some ⟨.ref C, some dx, .plain, #[]⟩ := I.obj
  refine wpAny_bind (wpAny_pure (wpAny_bind (wpAny_bind (wpAny_loadPart hx (wpAny_bind (PySem.W.Looks.here (s := { s with toks := s.toks + 1 }) (PySem.W.looks_clsIn X hc) ?_))))))
  rw [hd']
  refine wpAny_pure (a := some dx) (wpAny_bind (wpAny_pure (wpAny_bind ?_)))
  refine wpAny_nsSet1 (s := { s with toks := s.toks + 1 }) I.ns fun h' hn2 hs2 => ?_
  obtain ⟨oD, esD, epD, hoD, hdD, hcD⟩ := hn2.count (PySem.Within.cons name v hw)
  refine wpAny_bind (wpAny_lookBehind hoD (by rw [hdD]; exact pastItsLine_dict (Nat.le_trans hcD (by rw [List.length_cons]; omega))) ?_)
  exact wpAny_pure (h _ ⟨(hs2.2 _ (Ne.symm I.ne)).trans I.obj, hn2, I.ne⟩ hs2)

/-- C(..): the dict at the heap's end, the instance behind it; then its __init__ -/
theorem make_map {R : Result → Shared → Prop} {vs : List Value} {kw : List (Str × Value)} (X : K.In s.heap) (hm : PySem.W.makesIn K C = true)
    (hi : PySem.W.findIn K (.ref C) "__init__" = some (some (.ref f))) (hf : PySem.W.typeIn K (.ref f) = some (.type "function"))
    (h : codeAny (model prog w) (A.under (.builtin "type.__call__" ⟨.ref C :: vs, kw⟩)) (.call (.ref f) ⟨.ref (s.heap.objs.size + 1) :: vs, kw⟩) (PySem.W.InitBack (s.heap.objs.size + 1) R)
      { s with heap := (s.heap.push PySem.W.emptyDict).push (PySem.W.instObj C s.heap.objs.size) }) :
    codeAny (model prog w) A (.call (.ref C) ⟨vs, kw⟩) R s := by
  obtain ⟨hh, g, d, t, os⟩ := s
  exact PySem.W.make_core (PySem.W.makes_of X hm) (PySem.W.looks_findIn X hi) (fun self => PySem.W.bind_fn X self hf) (.inl rfl) h
end

/-! ### the attributes as a list of pairs -/
def putF (f : Str) (v : V) : List (Str × V) → List (Str × V)
  | [] => [(f, v)]
  | (g, x) :: r => if g = f then (g, v) :: r else (g, x) :: putF f v r
theorem lookup_putF (f g : Str) (v : V) : ∀ fs : List (Str × V), (putF f v fs).lookup g = if g = f then some v else fs.lookup g
  | [] => by
    show List.lookup g [(f, v)] = _
    by_cases h : g = f
    · have hb : (g == f) = true := beq_iff_eq.mpr h
      simp only [List.lookup, hb, if_pos h]
    · have hb : (g == f) = false := beq_eq_false_iff_ne.mpr h
      simp only [List.lookup, hb, if_neg h]
  | (k, x) :: r => by
    have ih := lookup_putF f g v r
    rw [show putF f v ((k, x) :: r) = (if k = f then (k, v) :: r else (k, x) :: putF f v r) from rfl]
    by_cases hk : k = f
    · rw [if_pos hk]
      by_cases h : g = k
      · have hb : (g == k) = true := beq_iff_eq.mpr h
        simp only [List.lookup, hb, if_pos (h.trans hk)]
      · have hb : (g == k) = false := beq_eq_false_iff_ne.mpr h
        simp only [List.lookup, hb, if_neg (fun e : g = f => h (e.trans hk.symm))]
    · rw [if_neg hk]
      by_cases h : g = k
      · have hb : (g == k) = true := beq_iff_eq.mpr h
        simp only [List.lookup, hb, if_neg (fun e : g = f => hk (h.symm.trans e))]
      · have hb : (g == k) = false := beq_eq_false_iff_ne.mpr h
        simp only [List.lookup, hb]
        exact ih
theorem keys_putF (f : Str) (v : V) : ∀ fs : List (Str × V), f ∈ (putF f v fs).map (·.1) ∧ ∀ g, g ∈ fs.map (·.1) → g ∈ (putF f v fs).map (·.1)
  | [] => ⟨by simp [putF], fun g h => by simp at h⟩
  | (k, x) :: r => by
    obtain ⟨i1, i2⟩ := keys_putF f v r
    rw [show putF f v ((k, x) :: r) = (if k = f then (k, v) :: r else (k, x) :: putF f v r) from rfl]
    by_cases hk : k = f
    · rw [if_pos hk]
      subst hk
      exact ⟨by simp, fun g h => by simpa using h⟩
    · rw [if_neg hk]
      refine ⟨?_, fun g h => ?_⟩
      · rw [List.map_cons]
        exact List.mem_cons_of_mem _ i1
      · rw [List.map_cons] at h ⊢
        rcases List.mem_cons.mp h with e | e
        · exact List.mem_cons.mpr (.inl e)
        · exact List.mem_cons_of_mem _ (i2 g e)
theorem length_putF (f : Str) (v : V) : ∀ fs : List (Str × V), (putF f v fs).length ≤ fs.length + 1
  | [] => by simp [putF]
  | (k, x) :: r => by
    have ih := length_putF f v r
    rw [show putF f v ((k, x) :: r) = (if k = f then (k, v) :: r else (k, x) :: putF f v r) from rfl]
    by_cases hk : k = f
    · rw [if_pos hk, List.length_cons, List.length_cons]; omega
    · rw [if_neg hk, List.length_cons, List.length_cons]; omega

theorem RelO.some_of {v : V} {o : Option Value} (r : RelO (some v) o) : ∃ u, o = some u ∧ RelV v u := by
  cases o with
  | none => exact (show False from r).elim
  | some u => exact ⟨u, rfl, r⟩
theorem RelO.none_of {o : Option Value} (r : RelO none o) : o = none := by
  cases o with
  | none => rfl
  | some u => exact (show False from r).elim
theorem handed_of {v : V} {u : Value} (r : RelV v u) : PySem.W.handedIn u = true := by
  cases v with
  | non => cases (show u = Value.none from r); rfl
  | bl b => cases (show u = Value.bool b from r); rfl
  | int i => obtain ⟨t, e⟩ := (show ∃ t, u = Value.int i t from r); cases e; rfl
  | str x => obtain ⟨t, e⟩ := (show ∃ t, u = Value.str x t from r); cases e; rfl
  | byt b => obtain ⟨t, e⟩ := (show ∃ t, u = Value.bytes b t from r); cases e; rfl
  | flt b => obtain ⟨t, e⟩ := (show ∃ t, u = Value.float b t from r); cases e; rfl
  | ref a => cases (show u = Value.ref a from r); rfl
  | ty n => cases (show u = Value.type n from r); rfl

section
variable {P : Program} {w : World} {H H' : Hp} {h h' : Heap} {a C dx : Addr} {fs fs' : List (Str × V)}
theorem ins_get (hok : HOk P w H h) (e : H a = some (.ins C dx fs)) : ∃ mA, ObjM h a dx C mA ∧ (∀ f, RelO (fs.lookup f) (mA f)) ∧ PySem.Within mA (fs.map (·.1)) ∧ fs.length ≤ 1000 ∧ H dx = some (.own a) := by
  obtain ⟨d, z, ne, ob, mA, n, r, q⟩ := (show ObjOk P w H h a (.ins C dx fs) from hok a _ e)
  exact ⟨mA, ⟨ob, n, ne⟩, r, q, z, d⟩
end

/-! ### what of the text a class must have -/
structure Cls (K : PySem.W.Frag) (C : Addr) : Prop where
  pg : PySem.W.plainGet K C Str.empty = true
  hd : PySem.W.hasDictIn K C = true
  po : PySem.W.plainOver K C = true
  sa : PySem.W.findIn K (.ref C) "__setattr__" = some (some (.builtin "object.__setattr__"))
theorem Cls.get {K : PySem.W.Frag} {C : Addr} (c : Cls K C) (f : Str) : PySem.W.plainGet K C f = true := c.pg
/-- no class of it has the name -/
def NoAttr (K : PySem.W.Frag) (C : Addr) (f : Str) : Prop := PySem.W.findIn K (.ref C) f = some none
theorem NoAttr.taker {K : PySem.W.Frag} {C : Addr} {f : Str} (n : NoAttr K C f) : PySem.W.takerIn K C f = some none := by
  unfold PySem.W.takerIn
  rw [show PySem.W.findIn K (.ref C) f = some none from n]
  rfl
/-- a constant of the class -/
structure Con (K : PySem.W.Frag) (C : Addr) (f : Str) (v : V) (u : Value) : Prop where
  at_ : PySem.W.findIn K (.ref C) f = some (some u)
  rel : RelV v u
  get : PySem.W.specialIn K u "__get__" = some none
  cp : PySem.W.copiedNames.contains f = false
/-- a method: a plain def of the class or of one above it -/
structure Meth (K : PySem.W.Frag) (C : Addr) (m : Str) (f : Addr) : Prop where
  at_ : PySem.W.findIn K (.ref C) m = some (some (.ref f))
  fn : PySem.W.isFn K (.ref f) = true
  kp : PySem.W.keepIn K (.ref f) = true

section
variable {X : Cx} {pins : List (Addr × Obj)} {σ : St} {H : Hp} {s : Shared} {a C dx : Addr} {fs : List (Str × V)} {f : Str} {v : V} {A : Around} {E : Value → Shared → Prop}

theorem getattr_ok {b : Bool} {Q : Value → Shared → Prop} (I : Inv X pins σ H s) (e : H a = some (.ins C dx fs)) (c : Cls X.K C) (n : NoAttr X.K C f) (l : fs.lookup f = some v)
    (h : ∀ u s', Inv X pins σ H s' → RelV v u → Q u s') : wpAny (model X.prog X.w) A (getAttr (.ref a) f b) Q E s := by
  obtain ⟨mA, O, r, _, _, _⟩ := ins_get I.hok e
  obtain ⟨u, hu, ru⟩ := RelO.some_of (v := v) (o := mA f) (by rw [← l]; exact r f)
  exact get_map I.kIn O (c.get f) c.hd n hu (handed_of ru) (h u _ (I.tok _) ru)

theorem getmeth_ok {m : Str} {g : Addr} {pl : Sem Bool} {Q : Value × List Value → Shared → Prop} (I : Inv X pins σ H s) (e : H a = some (.ins C dx fs)) (c : Cls X.K C) (k : Meth X.K C m g) (l : fs.lookup m = none)
    (h : Q (.ref g, [.ref a]) s) : wpAny (model X.prog X.w) A (getMethod (.ref a) m pl) Q E s := by
  obtain ⟨mA, O, r, _, _, _⟩ := ins_get I.hok e
  have hn : mA m = none := RelO.none_of (by rw [← l]; exact r m)
  exact get_meth I.kIn O (c.get m) k.at_ k.fn hn h

theorem setattr_ok {y : V} {u : Value} {Q : Unit → Shared → Prop} (I : Inv X pins σ H s) (e : H a = some (.ins C dx fs)) (c : Cls X.K C) (n : NoAttr X.K C f) (hl : fs.length < 1000) (ry : RelV y u)
    (h : ∀ s', Inv X pins σ (upd H a (.ins C dx (putF f y fs))) s' → Q () s') : wpAny (model X.prog X.w) A (setAttr (.ref a) f u) Q E s := by
  obtain ⟨mA, O, r, wi, _, ho⟩ := ins_get I.hok e
  have hz : (fs.map (·.1)).length ≤ sizeLine := by rw [List.length_map, sizeLine_eq]; omega
  refine set_map I.kIn O c.sa c.po n.taker c.hd wi hz fun h' O' sb => h _ ?_
  have hd : ∃ o, h'.get? dx = some o := let ⟨o, _, _, e', _⟩ := O'.ns; ⟨o, e'⟩
  refine I.write (x := a) (e := dx) (by rw [e]; exact True.intro) (.inr ho) (fun b q hb z => (sb.2 b hb).trans z) hd ?_
  refine ⟨by rw [upd_ne O.ne]; exact ho, ?_, O.ne, O'.obj, _, O'.ns, fun g => ?_, fun g hg => ?_⟩
  · have := length_putF f y fs; omega
  · show RelO ((putF f y fs).lookup g) (if g = f then some u else mA g)
    rw [lookup_putF]
    by_cases q : g = f
    · rw [if_pos q, if_pos q]; exact ry
    · rw [if_neg q, if_neg q]; exact r g
  · by_cases q : g = f
    · rw [q]; exact (keys_putF f y fs).1
    · refine (keys_putF f y fs).2 g (wi g fun z => hg ?_)
      show (if g = f then some u else mA g) = none
      rw [if_neg q]; exact z

/-- a new instance, tracked, without attributes -/
theorem Inv.made (I : Inv X pins σ H s) : Inv X pins σ (upd (upd H s.heap.objs.size (.own (s.heap.objs.size + 1))) (s.heap.objs.size + 1) (.ins C s.heap.objs.size []))
    { s with heap := (s.heap.push PySem.W.emptyDict).push (PySem.W.instObj C s.heap.objs.size) } := by
  have e1 : (s.heap.push PySem.W.emptyDict).get? s.heap.objs.size = some PySem.W.emptyDict := Heap.get?_push_size s.heap rfl
  have e2 : ((s.heap.push PySem.W.emptyDict).push (PySem.W.instObj C s.heap.objs.size)).get? (s.heap.objs.size + 1) = some (PySem.W.instObj C s.heap.objs.size) := by
    have := Heap.get?_push_size (s.heap.push PySem.W.emptyDict) (o := PySem.W.instObj C s.heap.objs.size) rfl
    rwa [Heap.size_push] at this
  have e3 : (s.heap.push PySem.W.emptyDict).Ns s.heap.objs.size (fun _ => none) := ⟨PySem.W.emptyDict, #[], _, e1, rfl, (fun e he => absurd he (by simp)), fun _ => rfl⟩
  have I1 := I.laid (a := s.heap.objs.size) (o := .own (s.heap.objs.size + 1)) (h' := s.heap.push PySem.W.emptyDict) (t' := s.toks) (fun b u q => Heap.get?_push_of_some _ q) (Nat.le_refl _) ⟨_, e1⟩
  refine I1.laid (a := s.heap.objs.size + 1) (o := .ins C s.heap.objs.size []) (t' := s.toks) (fun b u q => Heap.get?_push_of_some _ q) (Nat.le_of_eq (Heap.size_push _ _)) ?_
  have ne : s.heap.objs.size ≠ s.heap.objs.size + 1 := Nat.ne_of_lt (Nat.lt_succ_self _)
  refine ⟨by rw [upd_ne ne, upd_same], Nat.zero_le _, ne, e2, fun _ => none, (Heap.Ns1.of_empty e3).at fun o q => Heap.get?_push_of_some _ q, fun _ => True.intro, fun y hy => absurd rfl hy⟩

/-- e.f where nothing but the object is asked: through attributeBase (super) and the last hold -/
theorem attr_of {prog : Program} {w : World} {env : Env} {e : Expr} {f : Str} {pos : Pos} {s : Shared} {Q : Value → Shared → Prop} (hb : attributeBase e f env (eval e env) = eval e env)
    (h : wpAny (model prog w) A (eval e env) (fun o s₁ => wpAny (model prog w) A (getAttr o f true) Q E s₁) E s) : wpAny (model prog w) A (eval (.Attribute e f pos) env) Q E s :=
  Attribute_any_ h (by rw [arm_eval_Attribute, hb])
end

/-! ### readings and rules -/
/-- e.f, an attribute of the instance -/
def tFld (K : PySem.W.Frag) (ta : TE) (f : Str) : TE := fun σ H Q => ta σ H fun x H1 => ∃ a C dx fs v, x = .ref a ∧ H1 a = some (.ins C dx fs) ∧ Cls K C ∧ NoAttr K C f ∧ fs.lookup f = some v ∧ Q v H1
/-- e.f, a constant of the class -/
def tCon (K : PySem.W.Frag) (ta : TE) (f : Str) : TE := fun σ H Q => ta σ H fun x H1 => ∃ a C dx fs v u, x = .ref a ∧ H1 a = some (.ins C dx fs) ∧ Cls K C ∧ Con K C f v u ∧ fs.lookup f = none ∧ Q v H1
/-- e.f = value -/
def sFld (K : PySem.W.Frag) (ta tv : TE) (f : Str) : TS := fun D σ H => tv σ H fun y H1 => ta σ H1 fun x H2 => ∃ a C dx fs, x = .ref a ∧ H2 a = some (.ins C dx fs) ∧ Cls K C ∧ NoAttr K C f ∧ fs.length < 1000 ∧
  D.nx σ (upd H2 a (.ins C dx (putF f y fs)))
/-- an augmented operator on two values -/
def InOp (X : Cx) (op : Operator) (rd : V → V → Hp → VK → Prop) : Prop :=
  ∀ (pins : List (Addr × Obj)) (s : Shared) (σ : St) (H : Hp) (x y : V) (u v : Value) (Q : VK), Inv X pins σ H s → RelV x u → RelV y v → rd x y H Q → wpAny (model X.prog X.w) X.A (inplaceOp op u v) (EP X pins σ Q) X.xe s
/-- e.f op= value -/
def sFldAug (K : PySem.W.Frag) (ta tv : TE) (rd : V → V → Hp → VK → Prop) (f : Str) : TS := fun D σ H => ta σ H fun x H1 => ∃ a C dx fs v, x = .ref a ∧ H1 a = some (.ins C dx fs) ∧ Cls K C ∧ NoAttr K C f ∧ fs.lookup f = some v ∧
  tv σ H1 fun y H2 => rd v y H2 fun z H3 => ∃ dx' fs', H3 a = some (.ins C dx' fs') ∧ fs'.length < 1000 ∧ D.nx σ (upd H3 a (.ins C dx' (putF f z fs')))

section
variable {X : Cx} {o e value : Expr} {f : Str} {pos pos' tpos : Pos} {ta tv : TE}
theorem pe_fld (he : PE X e ta) (hb : attributeBase e f X.env (eval e X.env) = eval e X.env) : PE X (.Attribute e f pos) (tFld X.K ta f) := by
  intro pins s σ H Q I h
  refine attr_of hb (thn (he pins s σ H _ I h) fun u s1 ⟨x, H1, I1, rx, a, C, dx, fs, v, ex, ea, c, n, l, q⟩ => ?_)
  subst ex
  obtain rfl : u = Value.ref a := rx
  exact getattr_ok I1 ea c n l fun u' s2 I2 ru => ⟨v, H1, I2, ru, q⟩
theorem ps_fld (ha : PE X o ta) (hv : PE X value tv) (hs : swapsWith value (some (.Attribute o f pos')) pos.line X.env = pure false) : PS X (.Assign [.Attribute o f pos'] value pos) (sFld X.K ta tv f) := by
  intro pins s σ H D I h
  refine plainObj_wpAny_Assign_Attribute (thn (hv pins s σ H _ I h) fun u s1 ⟨y, H1, I1, ry, q⟩ => thn (ha pins s1 σ H1 _ I1 q) fun ov s2 ⟨x, H2, I2, rx, a, C, dx, fs, ex, ea, c, n, l, q2⟩ => ?_) hs
  subst ex
  obtain rfl : ov = Value.ref a := rx
  exact setattr_ok I2 ea c n l ry fun s3 I3 => ⟨σ, _, I3, q2⟩
def rAdd : V → V → Hp → VK → Prop := fun x y H Q => ∃ i j, x = .int i ∧ y = .int j ∧ Q (.int (i + j)) H
def rSub : V → V → Hp → VK → Prop := fun x y H Q => ∃ i j, x = .int i ∧ y = .int j ∧ Q (.int (i - j)) H
end

/-! ### isinstance -/
section
variable {X : Cx} {pins : List (Addr × Obj)} {σ : St} {H : Hp} {s : Shared} {A : Around} {E : Value → Shared → Prop} {Q : Value → Shared → Prop} {c : Value} {b : Bool}
/-- the type of a value, as the fragment's deciders take it; for an instance its class -/
inductive TyOf (K : PySem.W.Frag) (H : Hp) : V → Value → Prop where
  | non : TyOf K H .non (.type "NoneType")
  | bl (x : Bool) : TyOf K H (.bl x) (.type "bool")
  | int (i : Int) : TyOf K H (.int i) (.type "int")
  | str (x : Str) : TyOf K H (.str x) (.type "str")
  | flt (x : UInt64) : TyOf K H (.flt x) (.type "float")
  | lst {a : Addr} {xs : List V} (e : H a = some (.lst xs)) : TyOf K H (.ref a) (.type "list")
  | frz {a : Addr} {o : Obj} {xs : List V} (e : H a = some (.frz o (.lst xs))) : TyOf K H (.ref a) (.type "list")
  | tup {a : Addr} {xs : List V} (e : H a = some (.tup xs)) : TyOf K H (.ref a) (.type "tuple")
  | dK {a : Addr} {kvs : List (Key × V)} (e : H a = some (.dK kvs)) : TyOf K H (.ref a) (.type "dict")
  | dT {a : Addr} {kvs : List (List Key × V)} (e : H a = some (.dT kvs)) : TyOf K H (.ref a) (.type "dict")
  | ins {a C dx : Addr} {fs : List (Str × V)} (e : H a = some (.ins C dx fs)) (cl : Cls K C) (ha : PySem.W.findIn K (.ref C) "__class__" = some (some (.builtin "object.__class__")))
      (hn : PySem.W.specialIn K (.builtin "object.__class__") "__get__" = some (some (.builtin "getset_descriptor.__get__"))) (htk : PySem.W.takesIn K (.builtin "object.__class__") = some true)
      (hm : PySem.W.mroIn K C (.type "object") = some true) : TyOf K H (.ref a) (.ref C)
/-- isinstance(x, c) for one class c, a built-in or an own one: kitOne's answer -/
theorem isinst_ok {x : V} {u t : Value} (I : Inv X pins σ H s) (rx : RelV x u) (ty : TyOf X.K H x t) (e : PySem.W.kitOne X.K t c = some b) (h : ∀ tk, Q (.bool b) { s with toks := tk }) :
    wpAny (model X.prog X.w) A (call (.builtin "isinstance") [u, c]) Q E s := by
  cases ty with
  | non => cases (show u = Value.none from rx); exact PySem.W.kia_one PySem.W.kitx_none I.kIn True.intro e (fun z => nomatch z) h
  | bl y => cases (show u = Value.bool y from rx); exact PySem.W.kia_one PySem.W.kitx_bool I.kIn True.intro e (fun z => nomatch z) h
  | int i => obtain ⟨t, q⟩ := (show ∃ t, u = Value.int i t from rx); cases q; exact PySem.W.kia_one PySem.W.kitx_int I.kIn True.intro e (fun z => nomatch z) h
  | str y => obtain ⟨t, q⟩ := (show ∃ t, u = Value.str y t from rx); cases q; exact PySem.W.kia_one PySem.W.kitx_str I.kIn True.intro e (fun z => nomatch z) h
  | flt y => obtain ⟨t, q⟩ := (show ∃ t, u = Value.float y t from rx); cases q; exact PySem.W.kia_one PySem.W.kitx_float I.kIn True.intro e (fun z => nomatch z) h
  | @lst a xs ea =>
    cases (show u = Value.ref a from rx)
    obtain ⟨_, _, n, _, h1⟩ := (show ObjOk X.prog X.w H s.heap a (.lst xs) from I.hok a _ ea)
    exact PySem.W.kia_one PySem.W.kitx_list I.kIn ⟨_, h1, rfl⟩ e (fun z => nomatch z) h
  | @frz a ob xs ea =>
    cases (show u = Value.ref a from rx)
    obtain ⟨_, _, _, n, _, h1⟩ := (show ObjOk X.prog X.w H s.heap a (.frz ob (.lst xs)) from I.hok a _ ea)
    exact PySem.W.kia_one PySem.W.kitx_list I.kIn ⟨_, h1, rfl⟩ e (fun z => nomatch z) h
  | @tup a xs ea =>
    cases (show u = Value.ref a from rx)
    obtain ⟨_, _, _, p⟩ := (show ObjOk X.prog X.w H s.heap a (.tup xs) from I.hok a _ ea)
    obtain ⟨o, h1, h2, _⟩ := p
    exact PySem.W.kia_one PySem.W.kitx_tuple I.kIn ⟨o, h1, h2⟩ e (fun z => nomatch z) h
  | @dK a kvs ea =>
    cases (show u = Value.ref a from rx)
    obtain ⟨_, _, vs, _, p⟩ := (show ObjOk X.prog X.w H s.heap a (.dK kvs) from I.hok a _ ea)
    obtain ⟨o, es, ep, h1, h2, _⟩ := p
    exact PySem.W.kia_one PySem.W.kitx_dict I.kIn ⟨o, h1, h2.1⟩ e (fun z => nomatch z) h
  | @dT a kvs ea =>
    cases (show u = Value.ref a from rx)
    obtain ⟨_, _, xs, _, o, es, ep, h1, h2, _⟩ := (show ObjOk X.prog X.w H s.heap a (.dT kvs) from I.hok a _ ea)
    exact PySem.W.kia_one PySem.W.kitx_dict I.kIn ⟨o, h1, h2.1⟩ e (fun z => nomatch z) h
  | @ins a C dx fs ea cl ha hn htk hm =>
    cases (show u = Value.ref a from rx)
    obtain ⟨mA, O, _⟩ := ins_get I.hok ea
    obtain ⟨od, J, _⟩ := O.look
    exact PySem.W.kia_one (PySem.W.kitx_own (cl.get _) cl.hd ha hn htk hm) I.kIn J e (fun z => nomatch z) h
end
end L2

namespace L2
open PySem PySem.Spec PyProof.Rows

/-! ### room -/
structure Room (k : Nat) (A : Around) : Prop where
  hd : A.handled = none
  dp : A.depth + 3 * k + 5 < recursionLimit
  un : A.units + 16 * k + 200 < cLine
theorem Room.mono {j k : Nat} {A : Around} (r : Room k A) (h : j ≤ k) : Room j A := ⟨r.hd, by have := r.dp; omega, by have := r.un; omega⟩
theorem Room.deeper {k : Nat} {A : Around} (r : Room (k + 1) A) (env : Env) : Room k (A.deeper env) :=
  ⟨r.hd, by have := r.dp; show A.depth + 1 + 3 * k + 5 < _; omega, by have := r.un; show A.units + 3 + 16 * k + 200 < _; omega⟩
theorem Room.in1 {k : Nat} {A : Around} (r : Room (k + 1) A) : Room k A.in1 :=
  ⟨r.hd, by have := r.dp; show A.depth + 3 * k + 5 < _; omega, by have := r.un; show A.units + 1 + 16 * k + 200 < _; omega⟩
theorem make_depth {A : Around} {C : Addr} {us : List Value} {kw : List (Str × Value)} : (A.under (.builtin "type.__call__" ⟨.ref C :: us, kw⟩)).depth = A.depth + 1 := by
  first | rfl | simp [Around.under, Code.weight, Code.isCreation, Code.isGuard, Code.isCaller, Code.frames, Code.isFrame, guardIds]
theorem make_units {A : Around} {C : Addr} {us : List Value} {kw : List (Str × Value)} : (A.under (.builtin "type.__call__" ⟨.ref C :: us, kw⟩)).units = A.units + 1 := by
  first | rfl | simp [Around.under, Code.cUnits, Code.frames, Code.isFrame]
theorem Room.make {k : Nat} {A : Around} (r : Room (k + 1) A) (C : Addr) (us : List Value) (kw : List (Str × Value)) : Room k (A.under (.builtin "type.__call__" ⟨.ref C :: us, kw⟩)) :=
  ⟨r.hd, by have := r.dp; rw [make_depth]; omega, by have := r.un; rw [make_units]; omega⟩
theorem Room.depth {k : Nat} {A : Around} (r : Room k A) : A.depth < recursionLimit := by have := r.dp; omega
theorem Room.units {k : Nat} {A : Around} (r : Room k A) : A.units + 64 < cLine := by have := r.un; omega
/-! ### argument lists and displays -/
def tNil : TA := fun _ H Q => Q [] H
def tCons (ta : TE) (tr : TA) : TA := fun σ H Q => ta σ H fun x H1 => tr σ H1 fun xs H2 => Q (x :: xs) H2
section
variable {X : Cx} {e : Expr} {es : List Expr} {te : TE} {t : TA} {pos : Pos}
theorem pa_nil : PA X [] tNil := fun _ _ _ _ H Q I h => Calls.spliced_nil ⟨[], H, I, .nil, h⟩
theorem pa_cons (ha : PE X e te) (hr : PA X es t) (hs : starEach (e :: es) X.env = (false, eval e X.env) :: starEach es X.env := by rfl) : PA X (e :: es) (tCons te t) := by
  intro pos pins s σ H Q I h
  rw [hs]
  show wpAny _ _ (spliced ((false, eval e X.env) :: backTo pos (starEach es X.env))) _ _ s
  refine Calls.spliced_cons (thn (ha pins s σ H _ I h) fun u s1 ⟨x, H1, I1, r1, q1⟩ => ?_)
  exact thn (hr pos pins s1 σ H1 _ I1 q1) fun us s2 ⟨xs, H2, I2, r2, q2⟩ => ⟨x :: xs, H2, I2, .cons r1 r2, q2⟩

/-- a tuple, a list of written items -/
def tTup (t : TA) : TE := fun σ H Q => t σ H fun xs H1 => xs.length ≤ sizeLine ∧ ∀ p, H1 p = none → Q (.ref p) (upd H1 p (.tup xs))
def tLst (t : TA) : TE := fun σ H Q => t σ H fun xs H1 => xs.length ≤ sizeLine ∧ ∀ p, H1 p = none → Q (.ref p) (upd H1 p (.lst xs))
theorem pe_tup {x1} (h : PA X es t) : PE X (.Tuple es x1 pos) (tTup t) := by
  intro pins s σ H Q I hq
  refine wpAny_Tuple_spliced (thn (h pos pins s σ H _ I hq) fun us s1 ⟨xs, H1, I1, r, z, q⟩ => ⟨by rw [← r.length]; exact z, ?_⟩)
  have hf : H1 s1.heap.objs.size = none := I1.hok.fresh (Nat.le_refl _)
  refine ⟨.ref s1.heap.objs.size, upd H1 s1.heap.objs.size (.tup xs), I1.laid (t' := s1.toks) (fun b u e => Heap.get?_push_of_some _ e) (Nat.le_refl _) ?_, rfl, q _ hf⟩
  exact ⟨z, us, r, ⟨_, Heap.get?_push_size _ rfl, rfl, _, rfl⟩⟩
theorem pe_lst (h : PA X es t) : PE X (.List es pos) (tLst t) := by
  intro pins s σ H Q I hq
  refine wpAny_List_spliced (thn (h pos pins s σ H _ I hq) fun us s1 ⟨xs, H1, I1, r, z, q⟩ => ⟨by rw [← r.length]; exact z, ?_⟩)
  have hf : H1 s1.heap.objs.size = none := I1.hok.fresh (Nat.le_refl _)
  refine ⟨.ref s1.heap.objs.size, upd H1 s1.heap.objs.size (.lst xs), I1.laid (t' := s1.toks) (fun b u e => Heap.get?_push_of_some _ e) (Nat.le_refl _) ?_, rfl, q _ hf⟩
  exact ⟨z, us, 0, r, Heap.get?_push_size _ rfl⟩
end

/-! ### what a def promises -/
/-- a def's promise: the bound arguments in the parameters' order, the heap, the wanted end, the wanted exception -/
abbrev Sp := List V → Hp → VK → XK → Prop
/-- how an exception lies behind a call (file 08 gives it): the callers' frames, abstract heap and state ahead of the call, the wish, the exception, the state -/
abbrev CXT := List Env → Hp → Shared → XK → Value → Shared → Prop

/-- the state at a call -/
structure Env0 (P : Program) (w : World) (K : PySem.W.Frag) (mg : Str → Option Value) (base : Heap) (A : Around) (outer : List Env) (s : Shared) (H : Hp) : Prop where
  frames : A.frames = some outer
  mod : Mod K mg base
  bs : ∀ b o, base.get? b = some o → s.heap.get? b = some o ∧ H b = none
  bsz : base.objs.size ≤ s.heap.objs.size
  funs : s.heap.FunFrames base outer
  frf : ∀ b ∈ frs outer, H b = none
  hok : HOk P w H s.heap
  bare : AllBare s.gens
/-- a call's end -/
def CE (outer : List Env) (P : Program) (w : World) (H : Hp) (s : Shared) (Q : VK) (u : Value) (s' : Shared) : Prop :=
  ∃ v H', s'.os = s.os ∧ AllBare s'.gens ∧ Un (frs outer) [] H H' s.heap s'.heap ∧ HOk P w H' s'.heap ∧ RelV v u ∧ Q v H'
def CR (CX : CXT) (outer : List Env) (P : Program) (w : World) (H : Hp) (s : Shared) (Q : VK) (E : XK) (r : Result) (s' : Shared) : Prop :=
  match r with
  | .ok (.ret u) => CE outer P w H s Q u s'
  | .ok _ => False
  | .error e => CX outer H s E e s'
structure FnOk (P : Program) (w : World) (K : PySem.W.Frag) (mg : Str → Option Value) (base : Heap) (CX : CXT) (k : Nat) (f : Addr) (fd : FuncData) (ps : List Str) (sp : Sp) : Prop where
  len : ∀ vs H Q E, sp vs H Q E → vs.length = ps.length
  run : ∀ (A : Around) (outer : List Env) (s : Shared) (H : Hp) (args : Args) (us : List Value) (vs : List V) (Q : VK) (E : XK), Room k A → Env0 P w K mg base A outer s H → BindsTo s fd args (ps.zip us) → Vals vs us → sp vs H Q E →
    codeAny (model P w) A (.call (.ref f) args) (CR CX outer P w H s Q E) s
theorem FnOk.mono {P : Program} {w : World} {K : PySem.W.Frag} {mg : Str → Option Value} {base : Heap} {CX : CXT} {j k : Nat} {f : Addr} {fd : FuncData} {ps : List Str} {sp : Sp} (F : FnOk P w K mg base CX j f fd ps sp) (h : j ≤ k) :
    FnOk P w K mg base CX k f fd ps sp := ⟨F.len, fun A outer s H args us vs Q E hr => F.run A outer s H args us vs Q E (hr.mono h)⟩
/-- a weaker promise -/
theorem FnOk.imp {P : Program} {w : World} {K : PySem.W.Frag} {mg : Str → Option Value} {base : Heap} {CX : CXT} {k : Nat} {f : Addr} {fd : FuncData} {ps : List Str} {sp sp' : Sp} (F : FnOk P w K mg base CX k f fd ps sp)
    (h : ∀ vs H Q E, sp' vs H Q E → sp vs H Q E) : FnOk P w K mg base CX k f fd ps sp' :=
  ⟨fun vs H Q E q => F.len vs H Q E (h _ _ _ _ q), fun A outer s H args us vs Q E hr he hb hv hs => F.run A outer s H args us vs Q E hr he hb hv (h _ _ _ _ hs)⟩

theorem Env0.make {P : Program} {w : World} {K : PySem.W.Frag} {mg : Str → Option Value} {base : Heap} {A : Around} {outer : List Env} {s : Shared} {H : Hp} (e : Env0 P w K mg base A outer s H) (C : Addr) (us : List Value) (kw : List (Str × Value)) :
    Env0 P w K mg base (A.under (.builtin "type.__call__" ⟨.ref C :: us, kw⟩)) outer s H := ⟨by first | exact e.frames | (simpa [Around.under, Code.envs, Code.isFrame, pushEnvs] using e.frames), e.mod, e.bs, e.bsz, e.funs, e.frf, e.hok, e.bare⟩
theorem Env0.in1 {P : Program} {w : World} {K : PySem.W.Frag} {mg : Str → Option Value} {base : Heap} {A : Around} {outer : List Env} {s : Shared} {H : Hp} (e : Env0 P w K mg base A outer s H) :
    Env0 P w K mg base A.in1 outer s H := ⟨e.frames, e.mod, e.bs, e.bsz, e.funs, e.frf, e.hok, e.bare⟩

section
variable {X : Cx} {pins : List (Addr × Obj)} {σ : St} {H : Hp} {s s' : Shared}
/-- from a body: what a callee wants -/
theorem Inv.env0 (I : Inv X pins σ H s) : Env0 X.prog X.w X.K X.mg X.base X.A X.stack s H :=
  ⟨I.ok.frames, I.ok.mod, I.bs, Nat.le_trans I.ok.bsz I.sz, I.stack, I.stkFree, I.hok, I.bare⟩
/-- behind a call -/
theorem Inv.after {Q : VK} {u : Value} (I : Inv X pins σ H s) (h : CE X.stack X.prog X.w H s Q u s') : EP X pins σ Q u s' := by
  obtain ⟨v, H', os, bare, un, hok, r, q⟩ := h
  obtain ⟨hh, g, d, t, os'⟩ := s'
  obtain rfl : os' = s.os := os
  exact ⟨v, H', I.call (h' := hh) (g' := g) (d' := d) (t' := t) (ch := []) un hok bare (fun b z => absurd z (by simp)), r, q⟩
end

/-! ### calls -/
/-- f(..): the written arguments, then the defaults dvs; E: what is wanted of an exception -/
def tCall (sp : Sp) (dvs : List V) (E : XK) (t : TA) : TE := fun σ H Q => t σ H fun vs H1 => sp (vs ++ dvs) H1 Q E
/-- o.m(..) of an instance of the class at C -/
def tMeth (C : Addr) (m : Str) (sp : Sp) (dvs : List V) (E : XK) (ta : TE) (t : TA) : TE := fun σ H Q => ta σ H fun x H1 => ∃ a dx fs, x = .ref a ∧ H1 a = some (.ins C dx fs) ∧ fs.lookup m = none ∧
  t σ H1 fun vs H2 => sp (x :: (vs ++ dvs)) H2 Q E
/-- C(..): a new instance and its dict, then __init__ -/
def tMake (C : Addr) (sp : Sp) (dvs : List V) (E : XK) (t : TA) : TE := fun σ H Q => t σ H fun vs H1 => ∀ x dx, H1 x = none → H1 dx = none → dx ≠ x →
  sp (.ref x :: (vs ++ dvs)) (upd (upd H1 dx (.own x)) x (.ins C dx [])) (fun v H2 => v = .non ∧ Q (.ref x) H2) E

/-- how the parameters are bound: us the positional arguments, kw the keywords' values by name, ds the defaults that fill up -/
def Binds (K : PySem.W.Frag) (fd : FuncData) (ps : List Str) (ds : List Value) : Prop :=
  ∀ (s : Shared) (us : List Value), K.In s.heap → (us ++ ds).length = ps.length → BindsTo s fd ⟨us, []⟩ (ps.zip (us ++ ds))
/-- every parameter is given -/
theorem Binds.all {K : PySem.W.Frag} {fd : FuncData} {ps : List Str} (h : ∀ us : List Value, us.length = ps.length → bindArgs fd ⟨us, []⟩ = pure (ps.zip us)) : Binds K fd ps [] := fun s us _ hl => by
  rw [List.append_nil] at hl ⊢
  exact .of_eq (h us hl)

/-- an exception of a callee reaches what this body wants of exceptions -/
def Passes (CX : CXT) (X : Cx) (E : XK) : Prop := ∀ (pins : List (Addr × Obj)) (σ : St) (H : Hp) (s : Shared) (e : Value) (s' : Shared), Inv X pins σ H s → CX X.stack H s E e s' → X.xe e s'

section
variable {X : Cx} {CX : CXT} {k : Nat} {f C : Addr} {fd : FuncData} {ps : List Str} {sp : Sp} {dvs : List V} {ds : List Value} {E : XK} {x m : Str} {p pos apos : Pos} {e o : Expr} {es : List Expr} {ta : TE} {t : TA}

/-- the callee runs -/
theorem run_fn {pins : List (Addr × Obj)} {σ : St} {H : Hp} {s : Shared} {Q : VK} {us : List Value} {vs : List V} (F : FnOk X.prog X.w X.K X.mg X.base CX k f fd ps sp) (hr : Room k X.A) (hb : Binds X.K fd ps ds) (hd : Vals dvs ds) (hx : Passes CX X E)
    (I : Inv X pins σ H s) (r : Vals vs us) (h : sp (vs ++ dvs) H Q E) : wpAny (model X.prog X.w) X.A (call (.ref f) us) (EP X pins σ Q) X.xe s := by
  have r2 : Vals (vs ++ dvs) (us ++ ds) := r.append hd
  have hl : (us ++ ds).length = ps.length := by rw [← r2.length]; exact F.len _ _ _ _ h
  refine wpAny_call (codeAny_mono (F.run X.A X.stack s H ⟨us, []⟩ (us ++ ds) (vs ++ dvs) Q E hr I.env0 (hb s us I.kIn hl) r2 h) fun r s' hq => ?_)
  cases r with
  | error e => exact hx pins σ H s e s' I hq
  | ok fl =>
    cases fl with
    | ret u => exact I.after hq
    | next => exact False.elim hq
    | brk => exact False.elim hq
    | cont => exact False.elim hq

theorem pe_call (F : FnOk X.prog X.w X.K X.mg X.base CX k f fd ps sp) (hr : Room k X.A) (hg : Gl X x) (hm : X.mg x = some (.ref f)) (hk : PySem.W.keepIn X.K (.ref f) = true) (hb : Binds X.K fd ps ds) (hd : Vals dvs ds) (hx : Passes CX X E)
    (ha : PA X (e :: es) t) (hdb : (x == ("__debug__" : Str)) = false := by decide) (he : starEach (e :: es) X.env = (false, eval e X.env) :: starEach es X.env := by rfl) (hpl : (backTo pos (starEach es X.env)).any (·.1) = false := by rfl) :
    PE X (.Call (.Name x p) (e :: es) [] pos) (tCall sp dvs E t) := by
  intro pins s σ H Q I h
  refine wpAny_Call_Name_kw (ld_glob I hg hm ?_ hdb)
  refine PySem.W.callWith_K (h₀ := X.base) I.ok.mod.kin hk (thn (ha pos pins s σ H _ I h) fun us s1 ⟨vs, H1, I1, r, q⟩ => ⟨I1.kIn, ?_⟩) he hpl
  exact run_fn F hr hb hd hx I1 r q
/-- o.m(e, ..) -/
theorem pe_meth {pl : Sem Bool} (he : PE X o ta) (c : Cls X.K C) (hm : Meth X.K C m f) (F : FnOk X.prog X.w X.K X.mg X.base CX k f fd ps sp) (hr : Room k X.A) (hb : Binds X.K fd ps ds) (hd : Vals dvs ds) (hx : Passes CX X E) (ha : PA X (e :: es) t)
    (hst : starEach (e :: es) X.env = (false, eval e X.env) :: starEach es X.env := by rfl) (hpl : (backTo pos (starEach es X.env)).any (·.1) = false := by rfl)
    (ht : eval (.Call (.Attribute o m apos) (e :: es) [] pos) X.env = (do
      let ov ← eval o X.env
      standAt apos.atName
      let (f, first) ← holding [ov] (getMethod ov m pl)
      callWith pos f first (backTo pos (starEach (e :: es) X.env)) (backToKw pos (keywordEach [] X.env))) := by rfl) :
    PE X (.Call (.Attribute o m apos) (e :: es) [] pos) (tMeth C m sp dvs E ta t) := by
  intro pins s σ H Q I h
  refine PySem.W.methodCall_KW (pl := pl) (thn (he pins s σ H _ I h) fun u s1 ⟨x, H1, I1, rx, a, dx, fs, ex, ea, l, q⟩ => ?_) ht
  subst ex
  obtain rfl : u = Value.ref a := rx
  refine getmeth_ok I1 ea c hm l ?_
  refine PySem.W.callWith_K (first := [.ref a]) (h₀ := X.base) I.ok.mod.kin hm.kp (thn (ha pos pins s1 σ H1 _ I1 q) fun us s2 ⟨vs, H2, I2, r, q2⟩ => ⟨I2.kIn, ?_⟩) hst hpl
  exact run_fn (us := .ref a :: us) (vs := .ref a :: vs) F hr hb hd hx I2 (.cons rfl r) q2
/-- o.m() -/
theorem pe_meth0 {pl : Sem Bool} (he : PE X o ta) (c : Cls X.K C) (hm : Meth X.K C m f) (F : FnOk X.prog X.w X.K X.mg X.base CX k f fd ps sp) (hr : Room k X.A) (hb : Binds X.K fd ps ds) (hd : Vals dvs ds) (hx : Passes CX X E)
    (ht : eval (.Call (.Attribute o m apos) [] [] pos) X.env = (do
      let ov ← eval o X.env
      standAt apos.atName
      let (f, first) ← holding [ov] (getMethod ov m pl)
      callWith pos f first (backTo pos (starEach [] X.env)) (backToKw pos (keywordEach [] X.env))) := by rfl) :
    PE X (.Call (.Attribute o m apos) [] [] pos) (tMeth C m sp dvs E ta tNil) := by
  intro pins s σ H Q I h
  refine PySem.W.methodCall_KW (pl := pl) (thn (he pins s σ H _ I h) fun u s1 ⟨x, H1, I1, rx, a, dx, fs, ex, ea, l, q⟩ => ?_) ht
  subst ex
  obtain rfl : u = Value.ref a := rx
  refine getmeth_ok I1 ea c hm l ?_
  exact PySem.W.callWith_K0 (first := [.ref a]) I1.kIn hm.kp (run_fn (us := [.ref a]) (vs := [.ref a]) F hr hb hd hx I1 (.cons rfl .nil) q)

/-- what a class must have to be made -/
structure Mk (K : PySem.W.Frag) (C f : Addr) : Prop where
  makes : PySem.W.makesIn K C = true
  init : PySem.W.findIn K (.ref C) "__init__" = some (some (.ref f))
  fn : PySem.W.isFn K (.ref f) = true
  kp : PySem.W.keepIn K (.ref C) = true

theorem run_make {pins : List (Addr × Obj)} {σ : St} {H : Hp} {s : Shared} {Q : VK} {us : List Value} {vs : List V} (M : Mk X.K C f) (F : FnOk X.prog X.w X.K X.mg X.base CX k f fd ps sp) (hr : Room (k + 1) X.A) (hb : Binds X.K fd ps ds) (hd : Vals dvs ds)
    (hx : Passes CX X E) (I : Inv X pins σ H s) (r : Vals vs us)
    (h : ∀ x dx, H x = none → H dx = none → dx ≠ x → sp (.ref x :: (vs ++ dvs)) (upd (upd H dx (.own x)) x (.ins C dx [])) (fun v H2 => v = .non ∧ Q (.ref x) H2) E) :
    wpAny (model X.prog X.w) X.A (call (.ref C) us) (EP X pins σ Q) X.xe s := by
  have hq := h (s.heap.objs.size + 1) s.heap.objs.size (I.hok.fresh (Nat.le_succ _)) (I.hok.fresh (Nat.le_refl _)) (Nat.ne_of_lt (Nat.lt_succ_self _))
  have I2 := Inv.made (C := C) I
  have r2 : Vals (V.ref (s.heap.objs.size + 1) :: (vs ++ dvs)) (Value.ref (s.heap.objs.size + 1) :: (us ++ ds)) := .cons rfl (r.append hd)
  have hl : (Value.ref (s.heap.objs.size + 1) :: us ++ ds).length = ps.length := by
    have e := r2.length
    rw [F.len _ _ _ _ hq] at e
    exact e.symm
  refine wpAny_call (make_map (f := f) I.kIn M.makes M.init (beq_iff_eq.mp M.fn) (codeAny_mono (F.run _ X.stack _ _ ⟨Value.ref (s.heap.objs.size + 1) :: us, []⟩ (Value.ref (s.heap.objs.size + 1) :: (us ++ ds)) _ _ E (hr.make C us [])
    (I2.env0.make C us []) (hb _ (Value.ref (s.heap.objs.size + 1) :: us) I2.kIn hl) r2 hq) fun r s' hq' => ?_))
  cases r with
  | error e => exact hx pins σ _ _ e s' I2 hq'
  | ok fl =>
    cases fl with
    | ret u =>
      obtain ⟨v, H', I3, rv, ev, q3⟩ := I2.after hq'
      subst ev
      exact ⟨rv, ⟨V.ref (s.heap.objs.size + 1), H', I3, rfl, q3⟩⟩
    | next => exact False.elim hq'
    | brk => exact False.elim hq'
    | cont => exact False.elim hq'
theorem pe_make (M : Mk X.K C f) (F : FnOk X.prog X.w X.K X.mg X.base CX k f fd ps sp) (hr : Room (k + 1) X.A) (hg : Gl X x) (hm : X.mg x = some (.ref C)) (hb : Binds X.K fd ps ds) (hd : Vals dvs ds) (hx : Passes CX X E)
    (ha : PA X (e :: es) t) (hdb : (x == ("__debug__" : Str)) = false := by decide) (he : starEach (e :: es) X.env = (false, eval e X.env) :: starEach es X.env := by rfl) (hpl : (backTo pos (starEach es X.env)).any (·.1) = false := by rfl) :
    PE X (.Call (.Name x p) (e :: es) [] pos) (tMake C sp dvs E t) := by
  intro pins s σ H Q I h
  refine wpAny_Call_Name_kw (ld_glob I hg hm ?_ hdb)
  refine PySem.W.callWith_K (h₀ := X.base) I.ok.mod.kin M.kp (thn (ha pos pins s σ H _ I h) fun us s1 ⟨vs, H1, I1, r, q⟩ => ⟨I1.kIn, ?_⟩) he hpl
  exact run_make M F hr hb hd hx I1 r q
end

/-! ### keywords -/
/-- the values of the keywords, from the left -/
def PK (X : Cx) (kws : List Keyword) (t : TA) : Prop :=
  ∀ (pos : Pos) (pins : List (Addr × Obj)) (s : Shared) (σ : St) (H : Hp) (Q : List V → Hp → Prop), Inv X pins σ H s → t σ H Q → wpAny (model X.prog X.w) X.A (evalAll ((backToKw pos (keywordEach kws X.env)).map (·.2))) (AP X pins σ Q) X.xe s
section
variable {X : Cx} {CX : CXT} {k : Nat} {f C : Addr} {fd : FuncData} {ps ks : List Str} {sp : Sp} {E : XK} {x m : Str} {p pos apos kpos : Pos} {e o : Expr} {es : List Expr} {kws : List Keyword} {te ta : TE} {t tk : TA} {nm : Option Str}
theorem pk_nil : PK X [] tNil := fun _ _ _ _ H Q I h => wpAny_evalAll_nil ⟨[], H, I, .nil, h⟩
theorem pk_cons (ha : PE X e te) (hr : PK X kws t) : PK X (⟨nm, e, kpos⟩ :: kws) (tCons te t) := by
  intro pos pins s σ H Q I h
  show wpAny _ _ (evalAll ((do let v ← eval e X.env; standAt pos; pure v) :: (backToKw pos (keywordEach kws X.env)).map (·.2))) _ _ s
  refine wpAny_evalAll_cons (wpAny_bind (thn (ha pins s σ H _ I h) fun u s1 ⟨x, H1, I1, r1, q1⟩ => wpAny_bind (wpAny_standAt (wpAny_pure ?_))))
  exact thn (hr pos pins s1 σ H1 _ I1 q1) fun us s2 ⟨xs, H2, I2, r2, q2⟩ => ⟨x :: xs, H2, I2, .cons r1 r2, q2⟩

/-- how a call with keywords binds: g puts the positional values us and the keywords' values ws (names ks) in the parameters' order, defaults among them -/
structure KBinds (K : PySem.W.Frag) (fd : FuncData) (ps ks : List Str) (g : List Value → List Value → List Value) (gV : List V → List V → List V) : Prop where
  to : ∀ (s : Shared) (us ws : List Value), K.In s.heap → (g us ws).length = ps.length → BindsTo s fd ⟨us, ks.zip ws⟩ (ps.zip (g us ws))
  rel : ∀ {vs : List V} {us : List Value} {zs : List V} {ws : List Value}, Vals vs us → Vals zs ws → Vals (gV vs zs) (g us ws)
def tCallK (sp : Sp) (gV : List V → List V → List V) (E : XK) (t tk : TA) : TE := fun σ H Q => t σ H fun vs H1 => tk σ H1 fun zs H2 => sp (gV vs zs) H2 Q E
variable {g : List Value → List Value → List Value} {gV : List V → List V → List V}
end

/-! ### a def's body keeps its promise -/
/-- names: the parameters first -/
structure FnScope (N P : List Str) (sc : Scope) : Prop where
  kind : sc.kind = .function
  co : sc.isCoroutine = false
  gen : sc.isGenerator = false
  nd : N.Nodup
  pre : N.take P.length = P
  par : ∀ x ∈ P, sc.names.lookup x = some .local ∨ sc.names.lookup x = some .cell
  nofree : ∀ y ∈ sc.names, y.2 ≠ .free

theorem bindL_out {kindOf : Str → Option NameKind} {x : Str} : ∀ {binds : List (Str × Value)} {m : Str → Option Value}, (∀ v, (x, v) ∉ binds) → bindL kindOf binds m x = m x
  | [], _, _ => rfl
  | (n, v) :: r, m, h => by
    unfold bindL
    rw [bindL_out fun w hw => h w (List.mem_cons_of_mem _ hw)]
    split
    · have : x ≠ n := by rintro rfl; exact h v List.mem_cons_self
      simp [this]
    · rfl
theorem bindC_out {kindOf : Str → Option NameKind} {x : Str} : ∀ {binds : List (Str × Value)} {m : Str → Option Value}, (∀ v, (x, v) ∉ binds) → bindC kindOf binds m x = m x
  | [], _, _ => rfl
  | (n, v) :: r, m, h => by
    unfold bindC
    rw [bindC_out fun w hw => h w (List.mem_cons_of_mem _ hw)]
    split
    · rfl
    · have : x ≠ n := by rintro rfl; exact h v List.mem_cons_self
      simp [this]
theorem bindL_get {kindOf : Str → Option NameKind} {x : Str} {v : Value} : ∀ {P : List Str} {vs : List Value} {i : Nat} {m : Str → Option Value}, P.Nodup → P[i]? = some x → vs[i]? = some v → kindOf x = some .local →
    bindL kindOf (P.zip vs) m x = some v
  | [], _, _, _, _, h, _, _ => by simp at h
  | _ :: _, [], _, _, _, _, h, _ => by simp at h
  | p :: P, w :: vs, 0, m, nd, h1, h2, hk => by
    simp at h1 h2; subst h1; subst h2
    show bindL kindOf ((p, w) :: P.zip vs) m p = _
    unfold bindL
    rw [bindL_out fun v hv => (List.nodup_cons.mp nd).1 (List.of_mem_zip hv).1, if_pos hk]
    simp
  | p :: P, w :: vs, i + 1, m, nd, h1, h2, hk => by
    show bindL kindOf ((p, w) :: P.zip vs) m x = _
    unfold bindL
    exact bindL_get (i := i) (List.nodup_cons.mp nd).2 (by simpa using h1) (by simpa using h2) hk
theorem bindC_get {kindOf : Str → Option NameKind} {x : Str} {v : Value} : ∀ {P : List Str} {vs : List Value} {i : Nat} {m : Str → Option Value}, P.Nodup → P[i]? = some x → vs[i]? = some v → kindOf x ≠ some .local →
    bindC kindOf (P.zip vs) m x = some v
  | [], _, _, _, _, h, _, _ => by simp at h
  | _ :: _, [], _, _, _, _, h, _ => by simp at h
  | p :: P, w :: vs, 0, m, nd, h1, h2, hk => by
    simp at h1 h2; subst h1; subst h2
    show bindC kindOf ((p, w) :: P.zip vs) m p = _
    unfold bindC
    rw [bindC_out fun v hv => (List.nodup_cons.mp nd).1 (List.of_mem_zip hv).1, if_neg hk]
    simp
  | p :: P, w :: vs, i + 1, m, nd, h1, h2, hk => by
    show bindC kindOf ((p, w) :: P.zip vs) m x = _
    unfold bindC
    exact bindC_get (i := i) (List.nodup_cons.mp nd).2 (by simpa using h1) (by simpa using h2) hk

/-- the names' values at the entry -/
def start (N : List Str) (vs : List V) : St := vs.map some ++ List.replicate (N.length - vs.length) none

/-- the context of a def's body, at its entry; an exception leaves the frame, then lies as CX says -/
def cxOf (CX : CXT) (P : Program) (w : World) (K : PySem.W.Frag) (mg : Str → Option Value) (base : Heap) (N : List Str) (qual : Str) (scope : Scope) (f : Addr) (cd : Value) (A : Around) (outer : List Env) (s : Shared) (H : Hp) (E : XK) : Cx where
  prog := P
  w := w
  K := K
  mg := mg
  base := base
  A := A.deeper (envOfC qual scope s.heap.objs.size f cd)
  N := N
  s₀ := s
  H₀ := H
  env := envOfC qual scope s.heap.objs.size f cd
  outer := outer
  stack := envOfC qual scope s.heap.objs.size f cd :: outer
  ex := []
  calm := true
  fn := fun _ => true
  pn := []
  xe := fun e s' => wpAny (model P w) (A.deeper (envOfC qual scope s.heap.objs.size f cd)) (leaving (envOfC qual scope s.heap.objs.size f cd) e) (fun _ s'' => CX outer H s E e s'') (fun e' s'' => CX outer H s E e' s'') s'

theorem cell_has {sc : Scope} {n : Nat} {x : Str} (h : sc.names.lookup x = some .cell) : ∃ c, (cellsFrom n sc.names []).lookup x = some c := by
  have q := PySem.W.cellsFrom_some sc.names n [] (.inl h)
  exact Option.isSome_iff_exists.mp q

theorem inv_start {CX : CXT} {P : Program} {w : World} {K : PySem.W.Frag} {mg : Str → Option Value} {base : Heap} {N ps : List Str} {qual : Str} {scope : Scope} {f : Addr} {cd : Value} {A : Around} {outer : List Env} {s s1 : Shared} {H : Hp} {E : XK} {us : List Value} {vs : List V}
    (S : FnScope N ps scope) (hd : A.handled = none) (e0 : Env0 P w K mg base A outer s H) (hl : vs.length = ps.length) (r : Vals vs us)
    (x : InCallC s s.heap.objs.size (bindL (envOfC qual scope s.heap.objs.size f cd).kindOf (ps.zip us) fun _ => none) (cellsFrom (s.heap.objs.size + 1) scope.names []) (bindC (envOfC qual scope s.heap.objs.size f cd).kindOf (ps.zip us) fun _ => none) s1) :
    Inv (cxOf CX P w K mg base N qual scope f cd A outer s H E) [] (start N vs) H s1 := by
  have hpl : ps.length ≤ N.length := by have := congrArg List.length S.pre; rw [List.length_take] at this; omega
  obtain ⟨h1, tk, rfl, hk⟩ := x.done
  have noA : ∀ b : Addr, b ∉ (cxOf CX P w K mg base N qual scope f cd A outer s H E).ex := fun b z => absurd (show b ∈ ([] : List Addr) from z) (by simp)
  refine ⟨⟨e0.mod, S.kind, rfl, rfl, Nat.le_refl _, fun y z c h1 h2 => ?_, fun y hy => ?_, fun y c _ h => ?_, fun _ => hd, Around.frames_deeper e0.frames, .inr ⟨rfl, rfl⟩, fun b z => absurd z (noA b), e0.bs, e0.bsz, fun b _ _ => noA b, fun b z => absurd z (noA b), e0.funs, e0.frf⟩,
    rfl, e0.bare, Un.kept hk, ⟨_, x.toInCall.ns, fun i y v h1 h2 h3 => ?_⟩, fun y c h => ⟨_, x.cell y c h⟩, e0.hok.fresh (Nat.le_refl _), fun y c h => ?_, fun p hp => absurd (show p ∈ ([] : List (Addr × Obj)) from hp) (by simp), e0.hok.kept hk, ?_⟩
  · exact name_of_addr x.apart (PySem.mem_of_lookup h1) (PySem.mem_of_lookup h2)
  · have hy : scope.names.lookup y = some .cell ∨ scope.names.lookup y = some .free := hy
    rcases hy with hy | hy
    · exact cell_has hy
    · exact absurd rfl (S.nofree _ (PySem.mem_of_lookup hy))
  · exact Nat.le_of_lt (x.above y c (PySem.mem_of_lookup h))
  · have hi : i < vs.length := by
      unfold start at h2
      by_cases hi : i < vs.length
      · exact hi
      · rw [List.getElem?_append_right (by simpa using hi)] at h2
        rw [List.getElem?_replicate] at h2
        split at h2 <;> cases h2
    have ha : vs[i]? = some v := by
      unfold start at h2
      rw [List.getElem?_append_left (by simpa using hi), List.getElem?_map] at h2
      cases e : vs[i]? with
      | none => rw [e] at h2; cases h2
      | some a => rw [e] at h2; cases h2; rfl
    obtain ⟨u, hu, rv⟩ := r.get ha
    have hp : ps[i]? = some y := by
      rw [← S.pre, List.getElem?_take_of_lt (by omega)]; exact h1
    have ndP : ps.Nodup := by rw [← S.pre]; exact S.nd.sublist (List.take_sublist _ _)
    refine ⟨u, rv, ?_⟩
    rcases S.par y (List.mem_of_getElem? hp) with k | k
    · exact .inl ⟨k, bindL_get ndP hp hu k⟩
    · obtain ⟨c, e⟩ := cell_has (n := s.heap.objs.size + 1) k
      refine .inr ⟨.inl k, c, e, ?_⟩
      have q := x.cell y c e
      rw [bindC_get ndP hp hu (by show scope.names.lookup y ≠ _; rw [k]; decide)] at q
      exact q
  · exact e0.hok.fresh (Nat.le_of_lt (x.above y c (PySem.mem_of_lookup h)))
  · unfold start
    show _ = N.length
    rw [List.length_append, List.length_map, List.length_replicate]
    omega

/-- THE RULE: a def (or a method) of the text, by its body. The body's reading t is chosen for each entry; it is run at the parameters' values -/
theorem fn_of {CX : CXT} {P : Program} {w : World} {K : PySem.W.Frag} {mg : Str → Option Value} {base : Heap} {k : Nat} {f : Addr} {name qual : Str} {params : Arguments} {body : List Stmt} {scope : Scope} {dV kV doc pm cdv ct oc : Value} {an od : Option Addr}
    {osl : Array (Option Value)} {N ps : List Str} {sp : Sp} (lk : K.lookup f = some ⟨oc, od, .func (PySem.W.fnOf name qual params body scope dV kV doc pm an cdv ct), osl⟩) (hcd : PySem.W.codeIn K cdv qual = true) (S : FnScope N ps scope)
    (len : ∀ vs H Q E, sp vs H Q E → vs.length = ps.length)
    (hbody : ∀ (A : Around) (outer : List Env) (s : Shared) (H : Hp) (vs : List V) (Q : VK) (E : XK), Room k (A.deeper (envOfC qual scope s.heap.objs.size f cdv)) → sp vs H Q E →
      ∃ t, PSs (cxOf CX P w K mg base N qual scope f cdv A outer s H E) body t ∧ t { nx := fun _ H' => Q .non H', rt := Q } (start N vs) H) :
    FnOk P w K mg base CX (k + 1) f (PySem.W.fnOf name qual params body scope dV kV doc pm an cdv ct) ps sp := by
  refine ⟨len, fun A outer s H args us vs Q E hr e0 hb r hsp => ?_⟩
  have hl := len _ _ _ _ hsp
  have KX : K.In s.heap := e0.mod.kin.keeps fun b o e => (e0.bs b o e).1
  have lim : s.heap.NoLimit := e0.mod.nolimit.keeps fun b o e => (e0.bs b o e).1
  have hkind : ∀ y ∈ ps.zip us, scope.names.lookup y.1 = some .local ∨ (scope.names.lookup y.1 = some .cell ∧ ((cellsFrom (s.heap.objs.size + 1) scope.names []).lookup y.1).isSome = true) := fun ⟨n, v⟩ hy => by
    rcases S.par n (List.of_mem_zip hy).1 with q | q
    · exact .inl q
    · exact .inr ⟨q, PySem.W.cellsFrom_some _ _ _ (.inl q)⟩
  refine codeAny_call_function hr.depth (KX _ _ lk) rfl S.co S.gen rfl (PySem.W.codeRec_of KX hcd) (hb _ _ _ _ ?_)
  refine wpAny_newFunctionEnv_cells S.kind hkind fun env he s1 x => ?_
  subst he
  refine ⟨lim.keeps x.toInCall.keep, codeAny_func ?_⟩
  obtain ⟨t, ht, hq⟩ := hbody A outer s H vs Q E (hr.deeper _) hsp
  have I : Inv (cxOf CX P w K mg base N qual scope f cdv A outer s H E) [] (start N vs) H s1 := inv_start S hr.hd e0 hl r x
  refine wpAny_mono (ht [] s1 (start N vs) H _ I hq) (fun fl s' hs => ?_) fun e s' hs => hs
  have fin : ∀ {σ' : St} {H' : Hp} {v : V} {u : Value}, Inv (cxOf CX P w K mg base N qual scope f cdv A outer s H E) [] σ' H' s' → RelV v u → Q v H' → CE outer P w H s Q u s' :=
    fun {σ' H' v u} J rv q => ⟨v, H', J.os, J.bare, J.base, J.hok, rv, q⟩
  cases fl with
  | ret u =>
    obtain ⟨v, σ', H', J, rv, q⟩ := hs
    exact fin J rv q
  | next =>
    obtain ⟨σ', H', J, q⟩ := hs
    exact fin (v := V.non) (u := Value.none) J rfl q
  | brk =>
    obtain ⟨_, _, _, q⟩ := hs
    exact False.elim q
  | cont =>
    obtain ⟨_, _, _, q⟩ := hs
    exact False.elim q
end L2

namespace L2
open PySem PySem.Spec PyProof.Rows
section
variable {X : Cx} {x : Str} {p pos : Pos} {e : Expr} {es : List Expr} {t : TA} {id T : String} {r : List V → Hp → VK → Prop}

def tCB (r : List V → Hp → VK → Prop) (t : TA) : TE := fun σ H Q => t σ H fun vs H1 => r vs H1 Q
/-- f(e, ..), f a built-in function -/
theorem pe_callB (hc : CallR X (.builtin id) r) (hg : Gl X x) (hm : X.mg x = none) (hv : bootBuiltins x = some (.builtin id)) (ha : PA X (e :: es) t) (hn : x ≠ "__name__" := by decide) (hdb : (x == ("__debug__" : Str)) = false := by decide)
    (he : starEach (e :: es) X.env = (false, eval e X.env) :: starEach es X.env := by rfl) (hpl : (backTo pos (starEach es X.env)).any (·.1) = false := by rfl) : PE X (.Call (.Name x p) (e :: es) [] pos) (tCB r t) := by
  intro pins s σ H Q I h
  refine wpAny_Call_Name_kw (ld_blt I hg hm hv ?_ hn hdb)
  exact PyProof.Rows.callWith_builtin1 (thn (ha pos pins s σ H _ I h) fun us s1 ⟨vs, H1, I1, r1, q1⟩ => hc pins s1 σ H1 vs us Q I1 r1 q1) he hpl
/-- T(e, ..), T a built-in type -/
theorem pe_callTy (hc : CallR X (.type T) r) (hg : Gl X x) (hm : X.mg x = none) (hv : bootBuiltins x = some (.type T)) (ha : PA X (e :: es) t) (hn : x ≠ "__name__" := by decide) (hdb : (x == ("__debug__" : Str)) = false := by decide)
    (he : starEach (e :: es) X.env = (false, eval e X.env) :: starEach es X.env := by rfl) (hpl : (backTo pos (starEach es X.env)).any (·.1) = false := by rfl) : PE X (.Call (.Name x p) (e :: es) [] pos) (tCB r t) := by
  intro pins s σ H Q I h
  refine wpAny_Call_Name_kw (ld_blt I hg hm hv ?_ hn hdb)
  exact PyProof.Rows.callWith_type1 (thn (ha pos pins s σ H _ I h) fun us s1 ⟨vs, H1, I1, r1, q1⟩ => hc pins s1 σ H1 vs us Q I1 r1 q1) he hpl
end
end L2

namespace L2
open PySem PySem.Spec PyProof.Rows

/-! ### lists of pairs as tables -/
section
variable {κ : Type} [DecidableEq κ]
def valV (kvs : List (κ × V)) (k : κ) : Option V := (kvs.find? fun kv => decide (kv.1 = k)).map (·.2)
/-- in its place, or at the end -/
def putK (kvs : List (κ × V)) (k : κ) (v : V) : List (κ × V) :=
  if (kvs.any fun kv => decide (kv.1 = k)) = true then kvs.map (fun kv => if kv.1 = k then (kv.1, v) else kv) else kvs ++ [(k, v)]
def dropK (kvs : List (κ × V)) (k : κ) : List (κ × V) := kvs.filter fun kv => decide (kv.1 ≠ k)

theorem valV_pos {p : κ × V} {r : List (κ × V)} {k : κ} (e : p.1 = k) : valV (p :: r) k = some p.2 := by simp [valV, List.find?_cons, e]
theorem valV_neg {p : κ × V} {r : List (κ × V)} {k : κ} (e : ¬ p.1 = k) : valV (p :: r) k = valV r k := by simp [valV, List.find?_cons, e]
theorem valV_any (k : κ) : ∀ kvs : List (κ × V), (kvs.any fun kv => decide (kv.1 = k)) = (valV kvs k).isSome
  | [] => rfl
  | p :: r => by
    rw [List.any_cons]
    by_cases e : p.1 = k
    · simp only [valV_pos e, decide_eq_true e, Bool.true_or, Option.isSome_some]
    · rw [valV_neg e, decide_eq_false e, Bool.false_or]; exact valV_any k r
theorem length_putK (kvs : List (κ × V)) (k : κ) (v : V) : (putK kvs k v).length ≤ kvs.length + 1 := by
  unfold putK
  split
  · rw [List.length_map]; omega
  · rw [List.length_append, List.length_cons, List.length_nil]; omega
theorem RelO.isSome_eq {o : Option V} {u : Option Value} (r : RelO o u) : o.isSome = u.isSome := by
  cases o with
  | none => cases u with
    | none => rfl
    | some _ => exact (show False from r).elim
  | some _ => cases u with
    | none => exact (show False from r).elim
    | some _ => rfl
theorem RelO.getD {o : Option V} {u : Option Value} {d : V} {d' : Value} (r : RelO o u) (rd : RelV d d') : RelV (o.getD d) (u.getD d') := by
  cases o with
  | none => cases u with
    | none => exact rd
    | some _ => exact (show False from r).elim
  | some _ => cases u with
    | none => exact (show False from r).elim
    | some _ => exact r

/-- raw tables of the same keys -/
theorem KV.val {kvs : List (κ × V)} {vs : List (κ × Value)} (r : KV kvs vs) (k : κ) : RelO (valV kvs k) (valueAt vs k) := by
  unfold KV at r
  induction r with
  | nil => exact True.intro
  | @cons p q ps qs h t ih =>
    obtain ⟨h1, h2⟩ := h
    by_cases e : p.1 = k
    · have e' : q.1 = k := h1.symm.trans e
      have b : valueAt (q :: qs) k = some q.2 := by simp [valueAt, List.find?_cons, e']
      rw [valV_pos e, b]; exact h2
    · have e' : ¬ q.1 = k := fun z => e (h1.trans z)
      have b : valueAt (q :: qs) k = valueAt qs k := by simp [valueAt, List.find?_cons, e']
      rw [valV_neg e, b]; exact ih
theorem KV.any {kvs : List (κ × V)} {vs : List (κ × Value)} (r : KV kvs vs) (k : κ) : (kvs.any fun kv => decide (kv.1 = k)) = vs.any fun kv => decide (kv.1 = k) := by
  unfold KV at r
  induction r with
  | nil => rfl
  | cons h t ih => rw [List.any_cons, List.any_cons, ih, h.1]
theorem KV.repl {kvs : List (κ × V)} {vs : List (κ × Value)} (r : KV kvs vs) (k : κ) {y : V} {u : Value} (ry : RelV y u) :
    KV (kvs.map fun kv => if kv.1 = k then (kv.1, y) else kv) (vs.map fun kv => if kv.1 = k then (kv.1, u) else kv) := by
  unfold KV at r ⊢
  induction r with
  | nil => exact .nil
  | @cons p q ps qs h t ih =>
    rw [List.map_cons, List.map_cons]
    refine .cons ?_ ih
    obtain ⟨h1, h2⟩ := h
    by_cases e : p.1 = k
    · rw [if_pos e, if_pos (h1.symm.trans e)]; exact ⟨h1, ry⟩
    · rw [if_neg e, if_neg (fun z => e (h1.trans z))]; exact ⟨h1, h2⟩
theorem KV.put {kvs : List (κ × V)} {vs : List (κ × Value)} (r : KV kvs vs) (k : κ) {y : V} {u : Value} (ry : RelV y u) : KV (putK kvs k y) (stored vs k u) := by
  unfold putK stored
  rw [r.any k]
  by_cases e : (vs.any fun kv => decide (kv.1 = k)) = true
  · rw [if_pos e, if_pos e]; exact r.repl k ry
  · rw [if_neg e, if_neg e]; exact Paired.snoc r ⟨rfl, ry⟩
theorem KV.drop {kvs : List (κ × V)} {vs : List (κ × Value)} (r : KV kvs vs) (k : κ) : KV (dropK kvs k) (without vs k) := by
  unfold KV at r ⊢
  unfold dropK without
  induction r with
  | nil => exact .nil
  | @cons p q ps qs h t ih =>
    obtain ⟨h1, h2⟩ := h
    rw [List.filter_cons, List.filter_cons]
    by_cases e : p.1 = k
    · have a : ¬ decide (p.1 ≠ k) = true := by simp [e]
      have b : ¬ decide (q.1 ≠ k) = true := by simp [h1.symm.trans e]
      rw [if_neg a, if_neg b]; exact ih
    · have e' : ¬ q.1 = k := fun z => e (h1.trans z)
      have a : decide (p.1 ≠ k) = true := by simp [e]
      have b : decide (q.1 ≠ k) = true := by simp [e']
      rw [if_pos a, if_pos b]; exact .cons ⟨h1, h2⟩ ih
theorem KV.keys {kvs : List (κ × V)} {vs : List (κ × Value)} (r : KV kvs vs) : kvs.map (·.1) = vs.map (·.1) := by
  unfold KV at r
  induction r with
  | nil => rfl
  | cons h t ih => rw [List.map_cons, List.map_cons, ih, h.1]
theorem KV.length {kvs : List (κ × V)} {vs : List (κ × Value)} (r : KV kvs vs) : kvs.length = vs.length := Paired.length r
theorem dropK_le (kvs : List (κ × V)) (k : κ) : (dropK kvs k).length ≤ kvs.length := List.length_filter_le _ _
end


/-! ### a tracked dict, its keys ints and texts or tuples of these -/
theorem kV_is {P : Program} {w : World} {k : Key} {u : Value} (r : RelV (kV k) u) : (mixKind P w).is k u = true := by
  cases k with
  | inl i => obtain ⟨t, e⟩ := (show ∃ t, u = Value.int i t from r); subst e; exact mixKind_int P w i t
  | inr x => obtain ⟨t, e⟩ := (show ∃ t, u = Value.str x t from r); subst e; exact mixKind_str P w x t
theorem items_are {P : Program} {w : World} : ∀ {ks : List Key} {us : List Value}, Vals (ks.map kV) us → ItemsAre (mixKind P w) ks us
  | [], _, r => by rw [List.map_nil] at r; cases r; exact .nil
  | k :: ks, _, r => by
    rw [List.map_cons] at r
    cases r with
    | cons h t => exact .cons (kV_is h) (items_are t)

/-- raw entries of a dict with tuple keys -/
abbrev KT (H : Hp) : List (List Key × V) → List (List Key × Addr × Value) → Prop := Paired fun p q => p.1 = q.1 ∧ H q.2.1 = some (.tup (p.1.map kV)) ∧ RelV p.2 q.2.2
theorem KT.val {H : Hp} {kvs : List (List Key × V)} {xs : List (List Key × Addr × Value)} (r : KT H kvs xs) (k : List Key) : RelO (valV kvs k) ((atKey xs k).map (·.2)) := by
  induction r with
  | nil => exact True.intro
  | @cons p q ps qs h t ih =>
    obtain ⟨h1, _, h2⟩ := h
    by_cases e : p.1 = k
    · have e' : q.1 = k := h1.symm.trans e
      have b : atKey (q :: qs) k = some q.2 := by simp [atKey, List.find?_cons, e']
      rw [valV_pos e, b]; exact h2
    · have e' : ¬ q.1 = k := fun z => e (h1.trans z)
      have b : atKey (q :: qs) k = atKey qs k := by simp [atKey, List.find?_cons, e']
      rw [valV_neg e, b]; exact ih
theorem KT.repl {H : Hp} {kvs : List (List Key × V)} {xs : List (List Key × Addr × Value)} (r : KT H kvs xs) (k : List Key) {y : V} {u : Value} (ry : RelV y u) :
    KT H (kvs.map fun kv => if kv.1 = k then (kv.1, y) else kv) (xs.map (putAt k u)) := by
  induction r with
  | nil => exact .nil
  | @cons p q ps qs h t ih =>
    rw [List.map_cons, List.map_cons]
    refine .cons ?_ ih
    obtain ⟨h1, h2, h3⟩ := h
    unfold putAt
    by_cases e : p.1 = k
    · rw [if_pos e, if_pos (h1.symm.trans e)]; exact ⟨h1, h2, ry⟩
    · rw [if_neg e, if_neg (fun z => e (h1.trans z))]; exact ⟨h1, h2, h3⟩
theorem KT.put {H : Hp} {kvs : List (List Key × V)} {xs : List (List Key × Addr × Value)} (r : KT H kvs xs) (k : List Key) {b : Addr} {y : V} {u : Value} (hb : H b = some (.tup (k.map kV))) (ry : RelV y u) :
    KT H (putK kvs k y) (storedH xs k b u) := by
  have e : (kvs.any fun kv => decide (kv.1 = k)) = (atKey xs k).isSome := by
    rw [valV_any, (r.val k).isSome_eq, Option.isSome_map]
  unfold putK storedH
  rw [e]
  by_cases q : (atKey xs k).isSome = true
  · rw [if_pos q, if_pos q]; exact r.repl k ry
  · rw [if_neg q, if_neg q]; exact Paired.snoc r ⟨rfl, hb, ry⟩
theorem KT.keeps {H H' : Hp} {kvs : List (List Key × V)} {xs : List (List Key × Addr × Value)} (r : KT H kvs xs) (ht : ∀ b ys, H b = some (.tup ys) → H' b = some (.tup ys)) : KT H' kvs xs :=
  Paired.mapP r fun _ _ z => ⟨z.1, ht _ _ z.2.1, z.2.2⟩

section
variable {P : Program} {w : World} {H : Hp} {h : Heap} {a : Addr}
theorem rd_of {u : HO} (ok : HOk P w H h) (e : Rd H a u) : ObjOk P w H h a u := e.ok ok
theorem dk_rd {kvs : List (Key × V)} (ok : HOk P w H h) (e : Rd H a (.dK kvs)) : kvs.length ≤ sizeLine ∧ (a == sysModules) = false ∧ ∃ vs, KV kvs vs ∧ h.DictOf (mixKind P w) a vs :=
  show ObjOk P w H h a (.dK kvs) from rd_of ok e
theorem dk_of {kvs : List (Key × V)} (ok : HOk P w H h) (e : H a = some (.dK kvs)) : kvs.length ≤ sizeLine ∧ (a == sysModules) = false ∧ ∃ vs, KV kvs vs ∧ h.DictOf (mixKind P w) a vs := dk_rd ok (.inl e)
/-- a tracked tuple of ints and texts is a key -/
theorem key_of {ks : List Key} (ok : HOk P w H h) (e : H a = some (.tup (ks.map kV))) : (tupleKind (mixKind P w)).is h ks a := by
  obtain ⟨_, its, r, o, h1, h2, n, h3⟩ := (show ObjOk P w H h a (.tup (ks.map kV)) from ok a _ e)
  exact ⟨o, its.toArray, n, h1, h2, h3, by simpa using items_are r⟩
theorem dt_rd {kvs : List (List Key × V)} (ok : HOk P w H h) (e : Rd H a (.dT kvs)) : kvs.length ≤ sizeLine ∧ (a == sysModules) = false ∧
    ∃ xs, KT H kvs xs ∧ h.DictOfH (tupleKind (mixKind P w)) a xs := by
  obtain ⟨z, y, xs, r, o, es, ep, h1, h2, h3, h4, h5⟩ := (show ObjOk P w H h a (.dT kvs) from rd_of ok e)
  refine ⟨z, y, xs, r, o, es, ep, h1, h2, h3, h4, fun x hx => ?_, h5⟩
  have all : ∀ {l : List (List Key × V)} {m : List (List Key × Addr × Value)}, KT H l m → ∀ x ∈ m, (tupleKind (mixKind P w)).is h x.1 x.2.1 := by
    intro l m q
    induction q with
    | nil => intro x hx; exact nomatch hx
    | @cons p q ps qs hq t ih =>
      intro x hx
      rcases List.mem_cons.mp hx with e | hx
      · subst e
        exact key_of ok (by rw [← hq.1]; exact hq.2.1)
      · exact ih x hx
  exact all r x hx
theorem dt_of {kvs : List (List Key × V)} (ok : HOk P w H h) (e : H a = some (.dT kvs)) : kvs.length ≤ sizeLine ∧ (a == sysModules) = false ∧
    ∃ xs, KT H kvs xs ∧ h.DictOfH (tupleKind (mixKind P w)) a xs := dt_rd ok (.inl e)
end

/-- what the dict at a holds at the key y -/
def DGet (H : Hp) (a : Addr) (y : V) (r : Option V) : Prop :=
  (∃ kvs k, Rd H a (.dK kvs) ∧ y = kV k ∧ r = valV kvs k) ∨ ∃ kvs k b, Rd H a (.dT kvs) ∧ y = .ref b ∧ H b = some (.tup (k.map kV)) ∧ r = valV kvs k
/-- the heap behind a[y] = v -/
def DPut (H : Hp) (a : Addr) (y v : V) (H' : Hp) : Prop :=
  (∃ kvs k, H a = some (.dK kvs) ∧ y = kV k ∧ kvs.length < sizeLine ∧ H' = upd H a (.dK (putK kvs k v))) ∨
  ∃ kvs k b, H a = some (.dT kvs) ∧ y = .ref b ∧ H b = some (.tup (k.map kV)) ∧ kvs.length < sizeLine ∧ H' = upd H a (.dT (putK kvs k v))
theorem DGet.k {H : Hp} {a : Addr} {kvs : List (Key × V)} {k : Key} (e : H a = some (.dK kvs)) : DGet H a (kV k) (valV kvs k) := .inl ⟨kvs, k, .inl e, rfl, rfl⟩
theorem DGet.t {H : Hp} {a b : Addr} {kvs : List (List Key × V)} {k : List Key} (e : H a = some (.dT kvs)) (eb : H b = some (.tup (k.map kV))) : DGet H a (.ref b) (valV kvs k) := .inr ⟨kvs, k, b, .inl e, rfl, eb, rfl⟩
theorem DPut.k {H : Hp} {a : Addr} {kvs : List (Key × V)} {k : Key} {v : V} (e : H a = some (.dK kvs)) (hl : kvs.length < sizeLine) : DPut H a (kV k) v (upd H a (.dK (putK kvs k v))) := .inl ⟨kvs, k, e, rfl, hl, rfl⟩
theorem DPut.t {H : Hp} {a b : Addr} {kvs : List (List Key × V)} {k : List Key} {v : V} (e : H a = some (.dT kvs)) (eb : H b = some (.tup (k.map kV))) (hl : kvs.length < sizeLine) :
    DPut H a (.ref b) v (upd H a (.dT (putK kvs k v))) := .inr ⟨kvs, k, b, e, rfl, eb, hl, rfl⟩


section
variable {X : Cx} {pins : List (Addr × Obj)} {σ : St} {H : Hp} {s : Shared} {a : Addr} {y v : V} {u r : Value} {o : Option V} {A : Around} {E : Value → Shared → Prop}

theorem Inv.big (I : Inv X pins σ H s) : sysModules < s.heap.objs.size := by
  have h : mainGlobals < s.heap.objs.size := (I.mod.glob.keeps I.bk).lt
  exact Nat.lt_trans (by decide) h

/-- d[y], there -/
theorem d_getItem {Q : Value → Shared → Prop} (hu : A.units + 1 < cLine) (I : Inv X pins σ H s) (g : DGet H a y (some v)) (ry : RelV y u) (h : ∀ w' s', Inv X pins σ H s' → RelV v w' → Q w' s') :
    wpAny (model X.prog X.w) A (getItem (.ref a) u) Q E s := by
  rcases g with ⟨kvs, k, e, ey, l⟩ | ⟨kvs, k, b, e, ey, eb, l⟩
  · subst ey
    obtain ⟨z, hd, vs, rel, dd⟩ := dk_rd I.hok e
    obtain ⟨w', hw, rw'⟩ := RelO.some_of (v := v) (o := valueAt vs k) (by rw [l]; exact rel.val k)
    exact wpAny_getItem_of (kV_is ry) dd.mapOf hw (h w' _ (I.tok _) rw')
  · subst ey
    cases (show u = Value.ref b from ry)
    obtain ⟨z, hd, xs, rel, dd⟩ := dt_rd I.hok e
    obtain ⟨w', hw, rw'⟩ := RelO.some_of (v := v) (o := (atKey xs k).map (·.2)) (by rw [l]; exact rel.val k)
    obtain ⟨p, hp, hp2⟩ := Option.map_eq_some_iff.mp hw
    refine wpAny_getItem_heap (tupleKind_room_in1 hu) (key_of I.hok eb) dd hp ?_
    rw [hp2]
    exact h w' _ (I.tok _) rw'
theorem d_notIn {Q : Value → Shared → Prop} (hu : A.units + 1 < cLine) (I : Inv X pins σ H s) (g : DGet H a y o) (ry : RelV y u) (h : ∀ s', Inv X pins σ H s' → Q (.bool (!o.isSome)) s') :
    wpAny (model X.prog X.w) A (compareOp .NotIn u (.ref a)) Q E s := by
  rcases g with ⟨kvs, k, e, ey, l⟩ | ⟨kvs, k, b, e, ey, eb, l⟩
  · subst ey
    obtain ⟨z, hd, vs, rel, dd⟩ := dk_rd I.hok e
    refine wpAny_notIn_of (kV_is ry) hd dd.mapOf ?_
    rw [← (rel.val k).isSome_eq, ← l]
    exact h _ (I.tok _)
  · subst ey
    cases (show u = Value.ref b from ry)
    obtain ⟨z, hd, xs, rel, dd⟩ := dt_rd I.hok e
    refine wpAny_notIn_heap (tupleKind_room_in1 hu) (key_of I.hok eb) hd dd ?_
    have q := (rel.val k).isSome_eq
    rw [Option.isSome_map] at q
    rw [← q, ← l]
    exact h _ (I.tok _)
/-- a dict's object is replaced -/
theorem d_write {h' : Heap} {t' : Nat} {ob : HO} (I : Inv X pins σ H s) (mu : Mut (H a)) (hs : Heap.SameBut a s.heap h') (he : ∃ q, h'.get? a = some q) (new : ObjOk X.prog X.w (upd H a ob) h' a ob) :
    Inv X pins σ (upd H a ob) { s with heap := h', toks := t' } :=
  I.write (x := a) (e := a) mu (.inl rfl) (fun b q hb z => (hs.2 b hb).trans z) he new
theorem dk_new {P : Program} {w : World} {H' : Hp} {h' : Heap} {kvs : List (Key × V)} {vs : List (Key × Value)} (z : kvs.length ≤ sizeLine) (hd : (a == sysModules) = false) (rel : KV kvs vs) (dd : h'.DictOf (mixKind P w) a vs) :
    ObjOk P w H' h' a (.dK kvs) := ⟨z, hd, vs, rel, dd⟩
/-- d[y] = v -/
theorem d_setItem {H' : Hp} {Q : Unit → Shared → Prop} (hu : A.units + 1 < cLine) (I : Inv X pins σ H s) (g : DPut H a y v H') (ry : RelV y u) (rv : RelV v r) (h : ∀ s', Inv X pins σ H' s' → Q () s') :
    wpAny (model X.prog X.w) A (setItem (.ref a) u r) Q E s := by
  rcases g with ⟨kvs, k, e, ey, l, eH⟩ | ⟨kvs, k, b, e, ey, eb, l, eH⟩
  · subst ey eH
    obtain ⟨z, hd, vs, rel, dd⟩ := dk_of I.hok e
    have hz : vs.length ≤ sizeLine := by rw [← rel.length]; exact z
    have hl : (putK kvs k v).length ≤ sizeLine := by have := length_putK kvs k v; omega
    refine wpAny_setItem_pairs (hsz := hz) (kV_is ry) dd fun h' dd' hs => h _ ?_
    have he : ∃ q, h'.get? a = some q := let ⟨q, _, _, hq, _⟩ := dd'; ⟨q, hq⟩
    exact d_write I (by rw [e]; exact True.intro) hs he (dk_new hl hd (rel.put k rv) dd')
  · subst ey eH
    cases (show u = Value.ref b from ry)
    obtain ⟨z, hd, xs, rel, dd⟩ := dt_of I.hok e
    have hz : xs.length ≤ sizeLine := by rw [← Paired.length rel]; exact z
    have hl : (putK kvs k v).length ≤ sizeLine := by have := length_putK kvs k v; omega
    refine wpAny_setItem_heap (hsz := hz) (tupleKind_room_in1 hu) (key_of I.hok eb) dd fun h' dd' hs => h _ ?_
    obtain ⟨q, es, ep, hq, h2, h3, h4, _, h5⟩ := dd'
    refine d_write I (by rw [e]; exact True.intro) hs ⟨q, hq⟩ ⟨hl, hd, _, (rel.put k eb rv).keeps fun c ys ec => ?_, q, es, ep, hq, h2, h3, h4, h5⟩
    rw [upd_ne (ne_of ec e (fun z => nomatch z))]
    exact ec
end

section
variable {X : Cx} {pins : List (Addr × Obj)} {σ : St} {H : Hp} {s : Shared} {a : Addr} {kvs : List (Key × V)} {k : Key} {u : Value} {A : Around} {E : Value → Shared → Prop}
/-- d.pop(k[, x]), there -/
theorem d_pop {v : V} {more : List Value} {Q : Value → Shared → Prop} (I : Inv X pins σ H s) (e : H a = some (.dK kvs)) (ry : RelV (kV k) u) (l : valV kvs k = some v) (hm : more = [] ∨ ∃ x, more = [x])
    (h : ∀ w' s', Inv X pins σ (upd H a (.dK (dropK kvs k))) s' → RelV v w' → Q w' s') : wpAny (model X.prog X.w) A (call (.builtin "dict.pop") (.ref a :: u :: more)) Q E s := by
  obtain ⟨z, hd, vs, rel, dd⟩ := dk_of I.hok e
  obtain ⟨w', hw, rw'⟩ := RelO.some_of (v := v) (o := valueAt vs k) (by rw [← l]; exact rel.val k)
  have hp : (keyPart u).isSome = true := by
    cases k with
    | inl i => obtain ⟨t, q⟩ := (show ∃ t, u = Value.int i t from ry); subst q; rfl
    | inr x => obtain ⟨t, q⟩ := (show ∃ t, u = Value.str x t from ry); subst q; rfl
  have ha : argsOk "dict.pop" ⟨.ref a :: u :: more, []⟩ := by
    rcases hm with q | ⟨x, q⟩
    · subst q; exact PySem.F.args_dict_pop_2 _ _
    · subst q; exact PySem.F.args_dict_pop_3 _ _ _
  refine call_meetsIn PySem.F.slot_dict_pop dd.typeIs PySem.F.entry_dict_pop ha (meets_dict_pop_there (mixKind X.prog X.w) a (kV_is ry) more hm hp)
    ⟨vs, w', dd, by rw [← rel.length]; exact z, hw, fun h' dd' hs => h w' _ ?_ rw'⟩
  have he : ∃ q, h'.get? a = some q := let ⟨q, _, _, hq, _⟩ := dd'; ⟨q, hq⟩
  exact d_write I (by rw [e]; exact True.intro) hs he (dk_new (Nat.le_trans (dropK_le kvs k) z) hd (rel.drop k) dd')
end


/-! ### readings and rules -/
/-- the element of a subscription, not a slice -/
def NoSl (i : Expr) : Prop := ∀ ov iv, subscripted i false ov iv = operate [ov, iv] (getItem ov iv)
theorem subD_of {prog : Program} {w : World} {A : Around} {E : Value → Shared → Prop} {s : Shared} {env : Env} {value slice : Expr} {pos : Pos} {T id : String} {Q : Value → Shared → Prop}
    (hl : typeLookup (.type T) "__getitem__" = pure (some (.builtin id))) (hs : NoSl slice)
    (h : wpAny (model prog w) A (eval value env) (fun o s₁ => wpAny (model prog w) A (eval slice env) (fun i s₂ => s₂.TypeIs o T ∧ wpAny (model prog w) A (getItem o i) Q E s₂) E s₁) E s) :
    wpAny (model prog w) A (eval (.Subscript value slice pos) env) Q E s := by
  refine Subscript_ (wpAny_mono h (fun o s₁ h₁ => wpAny_mono h₁ (fun i s₂ h₂ => ?_) fun _ _ x => x) fun _ _ x => x)
  obtain ⟨hT, h₂⟩ := h₂
  unfold subscriptTail
  refine wpAny_bind ?_
  rw [getitemInPython_of_ne hT.not_modules]
  refine wpAny_bind (wpAny_specialOf hT hl ?_)
  have fin : wpAny (model prog w) A (subscripted slice false o i) (fun r s₃ => wpAny (model prog w) A (letTemporaryGo value o r >>= fun _ => pure r) Q E s₃) E s₂ := by
    rw [hs o i]
    exact wpAny_operating (wpAny_mono h₂ (fun r s₃ h₃ => wpAny_bind (wpAny_letTemporaryGo (wpAny_pure h₃))) fun _ _ x => x)
  first
    | exact wpAny_pure (wpAny_bind fin)
    | exact wpAny_bind (wpAny_pure (wpAny_bind fin))
    | exact wpAny_bind fin

theorem dict_typeIs {X : Cx} {pins : List (Addr × Obj)} {σ : St} {H : Hp} {s : Shared} {a : Addr} {y : V} {o : Option V} (I : Inv X pins σ H s) (g : DGet H a y o) : s.TypeIs (.ref a) "dict" := by
  rcases g with ⟨kvs, k, e, _, _⟩ | ⟨kvs, k, b, e, _, _, _⟩
  · obtain ⟨_, _, vs, _, dd⟩ := dk_rd I.hok e
    exact dd.typeIs
  · obtain ⟨_, _, xs, _, dd⟩ := dt_rd I.hok e
    exact dd.typeIs
/-- d[y] -/
def tDGet (td ty : TE) : TE := fun σ H Q => td σ H fun x H1 => ty σ H1 fun y H2 => ∃ a v, x = .ref a ∧ DGet H2 a y (some v) ∧ Q v H2
/-- y in d, y not in d -/
def tDIn (ty td : TE) : TE := fun σ H Q => ty σ H fun y H1 => td σ H1 fun x H2 => ∃ a o, x = .ref a ∧ DGet H2 a y o ∧ Q (.bl o.isSome) H2
def tDNotIn (ty td : TE) : TE := fun σ H Q => ty σ H fun y H1 => td σ H1 fun x H2 => ∃ a o, x = .ref a ∧ DGet H2 a y o ∧ Q (.bl (!o.isSome)) H2
/-- d[y] = v -/
def sDPut (td ty tv : TE) : TS := fun D σ H => tv σ H fun v H1 => td σ H1 fun x H2 => ty σ H2 fun y H3 => ∃ a H4, x = .ref a ∧ DPut H3 a y v H4 ∧ D.nx σ H4
/-- d[y] op= v -/
def sDAug (td ty tv : TE) (rd : V → V → Hp → VK → Prop) : TS := fun D σ H => td σ H fun x H1 => ty σ H1 fun y H2 => ∃ a v, x = .ref a ∧ DGet H2 a y (some v) ∧
  tv σ H2 fun y2 H3 => rd v y2 H3 fun z H4 => ∃ H5, DPut H4 a y z H5 ∧ D.nx σ H5
/-- del d[y] -/
def sDDel (td ty : TE) : TS := fun D σ H => td σ H fun x H1 => ty σ H1 fun y H2 => ∃ a kvs k, x = .ref a ∧ H2 a = some (.dK kvs) ∧ y = kV k ∧ (valV kvs k).isSome = true ∧ D.nx σ (upd H2 a (.dK (dropK kvs k)))

section
variable {X : Cx} {o i e value : Expr} {pos pos' tpos : Pos} {td ty tv : TE}
theorem pe_dget (hu : X.A.units + 1 < cLine) (ho : PE X o td) (hi : PE X i ty) (hs : NoSl i) : PE X (.Subscript o i pos) (tDGet td ty) := by
  intro pins s σ H Q I h
  refine subD_of PySem.F.slot_dict_getitem.lookup hs (thn (ho pins s σ H _ I h) fun u s1 ⟨x, H1, I1, rx, q1⟩ => thn (hi pins s1 σ H1 _ I1 q1) fun iv s2 ⟨y, H2, I2, ry, a, v, ex, g, q2⟩ => ?_)
  subst ex
  obtain rfl : u = Value.ref a := rx
  exact ⟨dict_typeIs I2 g, d_getItem hu I2 g ry fun w' s3 I3 rw' => ⟨v, H2, I3, rw', q2⟩⟩
theorem pc_dnotin (hu : X.A.units + 1 < cLine) (hi : PE X i ty) (ho : PE X o td) : PC X .NotIn i o (tDNotIn ty td) := by
  intro pins s σ H Q I h
  refine thn (hi pins s σ H _ I h) fun iv s1 ⟨y, H1, I1, ry, q1⟩ => thn (ho pins s1 σ H1 _ I1 q1) fun u s2 ⟨x, H2, I2, rx, a, ov, ex, g, q2⟩ => ?_
  subst ex
  obtain rfl : u = Value.ref a := rx
  exact d_notIn hu I2 g ry fun s3 I3 => ⟨.bl (!ov.isSome), H2, I3, rfl, q2⟩
theorem ps_dput (hu : X.A.units + 1 < cLine) (ho : PE X o td) (hi : PE X i ty) (hv : PE X value tv) (hs : swapsWith value (some (.Subscript o i pos')) pos.line X.env = pure false) :
    PS X (.Assign [.Subscript o i pos'] value pos) (sDPut td ty tv) := by
  intro pins s σ H D I h
  refine wpAny_Assign_Subscript (thn (hv pins s σ H _ I h) fun r s1 ⟨v, H1, I1, rv, q1⟩ => thn (ho pins s1 σ H1 _ I1 q1) fun u s2 ⟨x, H2, I2, rx, q2⟩ => thn (hi pins s2 σ H2 _ I2 q2) fun iv s3 ⟨y, H3, I3, ry, a, H4, ex, g, q3⟩ => ?_) hs
  subst ex
  obtain rfl : u = Value.ref a := rx
  exact d_setItem hu I3 g ry rv fun s4 I4 => ⟨σ, H4, I4, q3⟩
end


/-! ### displays -/
theorem dk_empty {P : Program} {w : World} {H : Hp} (h : Heap) (hb : sysModules < h.objs.size) : ObjOk P w H (h.push { cls := .type "dict", data := .dict #[] }) h.objs.size (.dK []) :=
  ⟨Nat.zero_le _, beq_eq_false_iff_ne.mpr (Ne.symm (Nat.ne_of_lt hb)), [], .nil, Heap.DictOf.new h⟩
/-- {}, to be a dict of the kind that is wanted -/
def tDNewK : TE := fun _ H Q => ∀ p, H p = none → Q (.ref p) (upd H p (.dK []))
def tDNewT : TE := fun _ H Q => ∀ p, H p = none → Q (.ref p) (upd H p (.dT []))
section
variable {X : Cx} {pos : Pos}
theorem pe_dnewK : PE X (.Dict [] [] pos) tDNewK := fun pins s σ H Q I h =>
  wpAny_Dict_empty ⟨.ref s.heap.objs.size, _, I.laid (a := s.heap.objs.size) (o := .dK []) (t' := s.toks) (fun _ _ q => Heap.get?_push_of_some _ q) (Nat.le_refl _) (dk_empty s.heap I.big), rfl, h _ (I.hok.fresh (Nat.le_refl _))⟩
end

/-- the pairs of a display, from the left -/
def tPairs : List (TE × TE) → St → Hp → (List (V × V) → Hp → Prop) → Prop
  | [], _, H, Q => Q [] H
  | (tk, tv) :: r, σ, H, Q => tk σ H fun x H1 => tv σ H1 fun y H2 => tPairs r σ H2 fun ps H3 => Q ((x, y) :: ps) H3
abbrev VV : List (V × V) → List (Value × Value) → Prop := Paired fun p q => RelV p.1 q.1 ∧ RelV p.2 q.2
def PPs (X : Cx) (pos : Pos) (keys : List (Option Expr)) (values : List Expr) (trs : List (TE × TE)) : Prop :=
  ∀ (pins : List (Addr × Obj)) (s : Shared) (σ : St) (H : Hp) (Q : List (V × V) → Hp → Prop), Inv X pins σ H s → tPairs trs σ H Q →
    wpAny (model X.prog X.w) X.A (evalPairs (pairTrees keys values X.env pos)) (fun vs s' => ∃ ps H', Inv X pins σ H' s' ∧ VV ps vs ∧ Q ps H') X.xe s
def mergeK (kvs more : List (Key × V)) : List (Key × V) := more.foldl (fun acc kv => putK acc kv.1 kv.2) kvs
/-- {k: v, ..} with keys ints and texts; the new dict stands empty while the pairs are made -/
def tDisp (trs : List (TE × TE)) : TE := fun σ H Q => ∀ p, H p = none → tPairs trs σ (upd H p (.dK [])) fun ps H2 => H2 p = some (.dK []) ∧ ∃ kvs : List (Key × V), ps = kvs.map (fun kv => (kV kv.1, kv.2)) ∧ kvs.length ≤ 15 ∧ Q (.ref p) (upd H2 p (.dK (mergeK [] kvs)))
/-! ### methods -/
/-- a method call o.m(e) of a built-in, with one argument: what must be seen of the text -/
structure M1 (X : Cx) (o : Expr) (m : Str) (apos : Pos) (e : Expr) (cpos : Pos) : Prop where
  base : attributeBase o m X.env (eval o X.env) = eval o X.env
  few : ((backTo cpos (starEach [e] X.env)).all (fun x => !x.1) && (backToKw cpos (keywordEach [] X.env)).all (fun x => x.1.isSome)
    && decide (([e] : List Expr).length + ([] : List Keyword).length + (if ([] : List Keyword).isEmpty then 0 else 1) < 30)) = true
  line : (apos.endLine == cpos.line) = true
  trees : backTo cpos (starEach [e] X.env) = [(false, eval e X.env)]
structure M2 (X : Cx) (o : Expr) (m : Str) (apos : Pos) (e f : Expr) (cpos : Pos) : Prop where
  base : attributeBase o m X.env (eval o X.env) = eval o X.env
  few : ((backTo cpos (starEach [e, f] X.env)).all (fun x => !x.1) && (backToKw cpos (keywordEach [] X.env)).all (fun x => x.1.isSome)
    && decide (([e, f] : List Expr).length + ([] : List Keyword).length + (if ([] : List Keyword).isEmpty then 0 else 1) < 30)) = true
  line : (apos.endLine == cpos.line) = true
  trees : backTo cpos (starEach [e, f] X.env) = [(false, eval e X.env), (false, eval f X.env)]

/-- a is a dict, whatever its keys -/
def IsD (H : Hp) (a : Addr) : Prop := (∃ kvs, Rd H a (.dK kvs)) ∨ ∃ kvs, Rd H a (.dT kvs)
theorem isD_at {X : Cx} {pins : List (Addr × Obj)} {σ : St} {H : Hp} {s : Shared} {a : Addr} (I : Inv X pins σ H s) (d : IsD H a) :
    s.TypeIs (.ref a) "dict" ∧ (∀ b, Value.ref a = .ref b → ∃ ob, s.heap.get? b = some ob ∧ ob.dict = none) ∧ (a == sysModules) = false := by
  rcases d with ⟨kvs, e⟩ | ⟨kvs, e⟩
  · obtain ⟨_, hd, vs, _, dd⟩ := dk_rd I.hok e
    refine ⟨dd.typeIs, fun b q => ?_, hd⟩
    cases q
    obtain ⟨ob, _, _, h1, h2, _⟩ := dd
    exact ⟨ob, h1, h2.2.1⟩
  · obtain ⟨_, hd, xs, _, dd⟩ := dt_rd I.hok e
    refine ⟨dd.typeIs, fun b q => ?_, hd⟩
    cases q
    obtain ⟨ob, _, _, h1, h2, _⟩ := dd
    exact ⟨ob, h1, h2.2.1⟩

section
variable {X : Cx} {pins : List (Addr × Obj)} {σ : St} {H : Hp} {s : Shared} {a : Addr} {y d : V} {u r : Value} {o : Option V} {A : Around} {E : Value → Shared → Prop}
/-- d.get(y, x) -/
theorem d_get2 {Q : Value → Shared → Prop} (hu : A.units + 1 < cLine) (I : Inv X pins σ H s) (g : DGet H a y o) (ry : RelV y u) (rd : RelV d r) (h : ∀ w' s', Inv X pins σ H s' → RelV (o.getD d) w' → Q w' s') :
    wpAny (model X.prog X.w) A (call (.builtin "dict.get") [.ref a, u, r]) Q E s := by
  rcases g with ⟨kvs, k, e, ey, l⟩ | ⟨kvs, k, b, e, ey, eb, l⟩
  · subst ey
    obtain ⟨z, hd, vs, rel, dd⟩ := dk_rd I.hok e
    refine call_meetsIn PySem.F.slot_dict_get dd.typeIs PySem.F.entry_dict_get (PySem.F.args_dict_get_3 _ _ _) (meets_dict_get_default (mixKind X.prog X.w) a (kV_is ry) hd r) ⟨_, dd.mapOf, h _ _ (I.tok _) ?_⟩
    rw [l]
    exact (rel.val k).getD rd
  · subst ey
    cases (show u = Value.ref b from ry)
    obtain ⟨z, hd, xs, rel, dd⟩ := dt_rd I.hok e
    refine call_meetsIn PySem.F.slot_dict_get dd.typeIs PySem.F.entry_dict_get (PySem.F.args_dict_get_3 _ _ _) (meetsH_dict_get_default (tupleKind (mixKind X.prog X.w)) a b hd r) ⟨tupleKind_room_in1 hu, k, xs, key_of I.hok eb, dd, h _ _ (I.tok _) ?_⟩
    rw [l]
    exact (rel.val k).getD rd
end

def tDGet1 (td ty : TE) : TE := fun σ H Q => td σ H fun x H1 => ∃ a, x = .ref a ∧ IsD H1 a ∧ ty σ H1 fun y H2 => ∃ o, DGet H2 a y o ∧ Q (o.getD .non) H2
def tDGet2 (td ty tx : TE) : TE := fun σ H Q => td σ H fun x H1 => ∃ a, x = .ref a ∧ IsD H1 a ∧ ty σ H1 fun y H2 => tx σ H2 fun z H3 => ∃ o, DGet H3 a y o ∧ Q (o.getD z) H3
/-- d.pop(k): there; d.pop(k, x): there or not -/
def tDPop1 (td ty : TE) : TE := fun σ H Q => td σ H fun x H1 => ∃ a, x = .ref a ∧ IsD H1 a ∧ ty σ H1 fun y H2 => ∃ kvs k v, H2 a = some (.dK kvs) ∧ y = kV k ∧ valV kvs k = some v ∧ Q v (upd H2 a (.dK (dropK kvs k)))
def tDPop2 (td ty tx : TE) : TE := fun σ H Q => td σ H fun x H1 => ∃ a, x = .ref a ∧ IsD H1 a ∧ ty σ H1 fun y H2 => tx σ H2 fun z H3 => ∃ kvs k, H3 a = some (.dK kvs) ∧ y = kV k ∧
  (∀ v, valV kvs k = some v → Q v (upd H3 a (.dK (dropK kvs k)))) ∧ (valV kvs k = none → Q z H3)
section
variable {X : Cx} {o e f : Expr} {apos cpos : Pos} {td ty tx : TE}
theorem pe_dget2 (hu : X.A.units + 1 < cLine) (ho : PE X o td) (he : PE X e ty) (hf : PE X f tx) (m : M2 X o "get" apos e f cpos) : PE X (.Call (.Attribute o "get" apos) [e, f] [] cpos) (tDGet2 td ty tx) := by
  intro pins s σ H Q I h
  refine wpAny_Call_method m.base m.few m.line PySem.F.plainAttrs_dict PySem.F.slot_dict_get PySem.F.type_dict_get (thn (ho pins s σ H _ I h) fun u s1 ⟨x, H1, I1, rx, a, ex, d, q1⟩ => ?_)
  subst ex
  obtain rfl : u = Value.ref a := rx
  obtain ⟨t1, t2, _⟩ := isD_at I1 d
  refine ⟨t1, t2, ?_⟩
  rw [m.trees]
  refine Calls.callWith_builtin rfl (Calls.evalArgs_plain (Calls.spliced_cons (thn (he pins s1 σ H1 _ I1 q1) fun iv s2 ⟨y, H2, I2, ry, q2⟩ =>
    Calls.spliced_cons (thn (hf pins s2 σ H2 _ I2 q2) fun fv s3 ⟨z, H3, I3, rz, ov, g, q3⟩ => Calls.spliced_nil ?_))))
  exact d_get2 hu I3 g ry rz fun w' s4 I4 rw' => ⟨_, H3, I4, rw', q3⟩
theorem pe_dpop1 (ho : PE X o td) (he : PE X e ty) (m : M1 X o "pop" apos e cpos) : PE X (.Call (.Attribute o "pop" apos) [e] [] cpos) (tDPop1 td ty) := by
  intro pins s σ H Q I h
  refine wpAny_Call_method m.base m.few m.line PySem.F.plainAttrs_dict PySem.F.slot_dict_pop PySem.F.type_dict_pop (thn (ho pins s σ H _ I h) fun u s1 ⟨x, H1, I1, rx, a, ex, d, q1⟩ => ?_)
  subst ex
  obtain rfl : u = Value.ref a := rx
  obtain ⟨t1, t2, _⟩ := isD_at I1 d
  refine ⟨t1, t2, ?_⟩
  rw [m.trees]
  refine Calls.callWith_builtin rfl (Calls.evalArgs_plain (Calls.spliced_cons (thn (he pins s1 σ H1 _ I1 q1) fun iv s2 ⟨y, H2, I2, ry, kvs, k, v, ea, ey, l, q2⟩ => Calls.spliced_nil ?_)))
  subst ey
  exact d_pop I2 ea ry l (.inl rfl) fun w' s3 I3 rw' => ⟨v, _, I3, rw', q2⟩
end

/-! ### dict(d): a copy -/
section
variable {X : Cx} {pins : List (Addr × Obj)} {σ : St} {H : Hp} {s : Shared} {a : Addr} {kvs : List (Key × V)} {A : Around} {E : Value → Shared → Prop}
end


section
variable {X : Cx} {pins : List (Addr × Obj)} {σ : St} {H : Hp} {s : Shared} {a : Addr} {y : V} {u : Value} {A : Around} {E : Value → Shared → Prop}
end
end L2

namespace HT
open PySem PyProof.Rows

/-- t < u of tuples of ints -/
def lexLt : List Int → List Int → Bool
  | [], [] => false
  | [], _ :: _ => true
  | _ :: _, [] => false
  | x :: xs, y :: ys => if x = y then lexLt xs ys else decide (x < y)
theorem rcLt_int (A : Around) (s : Shared) (a : Int) (t : Tok) (c : Int) (u : Tok) (prog : Program) (w : World) (E : Value → Shared → Prop) (Q : Value → Shared → Prop) (h : Q (.bool (decide (a < c))) s) :
    wpAny (model prog w) A (richCompare .Lt (.int a t) (.int c u)) Q E s :=
  (PyProof.Rows.lt_int h : wpAny (model prog w) A (compareOp .Lt (.int a t) (.int c u)) Q E s)

section
open PySem.SeqAt
open PySem.AutoSeq1 (wpAny_loadPart')
open PySem.MeetsSeq PySem.MeetsSeq2 PySem.MeetsSeq3

end

section
variable {prog : Program} {w : World} {A : Around} {E : Value → Shared → Prop} {s : Shared}

/-! ### t[a:b], not the whole -/
/-- a slice's bound as a place among n (d where it is left out) -/
def sIx (n d : Nat) : Option Int → Nat
  | none => d
  | some v => if v < 0 then (v + (n : Int)).toNat else min v.toNat n
end
end HT

namespace L2
open PySem PySem.Spec PyProof.Rows

/-! ### the parts of a slice -/
abbrev TO := St → Hp → (Option Int → Hp → Prop) → Prop
/-- a slice's part (left out, or an int) -/
def PO (X : Cx) (e : Option Expr) (t : TO) : Prop :=
  ∀ (pins : List (Addr × Obj)) (s : Shared) (σ : St) (H : Hp) (Q : Option Int → Hp → Prop), Inv X pins σ H s → t σ H Q →
    wpAny (model X.prog X.w) X.A (evalPart e X.env) (fun u s' => ∃ o H', Inv X pins σ H' s' ∧ IsPart u o ∧ Q o H') X.xe s
def tNoPart : TO := fun _ H Q => Q none H
def tPart (t : TE) : TO := fun σ H Q => t σ H fun x H1 => ∃ i, x = .int i ∧ Q (some i) H1

theorem intsAre_of {ns : List Int} : ∀ {us : List Value}, Vals (ns.map V.int) us → IntsAre us ns := by
  induction ns with
  | nil => intro us r; rw [List.map_nil] at r; cases r; exact .nil
  | cons n ns ih =>
    intro us r
    rw [List.map_cons] at r
    cases r with
    | cons r1 r2 =>
      obtain ⟨t, e⟩ := r1
      subst e
      exact .cons n t (ih r2)

section
variable {X : Cx} {e : Expr} {te : TE} {lo hi : Option Expr} {tl th : TO} {pos p2 : Pos}

/-- what a slice of a value is, by values: the slice object stands at sl -/
def SlR (X : Cx) (r : V → Option Int → Option Int → Hp → VK → Prop) : Prop :=
  ∀ (pins : List (Addr × Obj)) (s : Shared) (σ : St) (H : Hp) (x : V) (v vl vu : Value) (lo hi : Option Int) (sl : Addr) (Q : VK), Inv X pins σ H s → RelV x v → s.heap.IsSliceOf sl vl vu .none → IsPart vl lo → IsPart vu hi → r x lo hi H Q →
    ∃ T id, typeLookup (.type T) "__getitem__" = pure (some (.builtin id)) ∧ s.TypeIs v T ∧ wpAny (model X.prog X.w) X.A (getItem v (.ref sl)) (EP X pins σ Q) X.xe s
theorem SlR.or {r r' : V → Option Int → Option Int → Hp → VK → Prop} (h : SlR X r) (h' : SlR X r') : SlR X (fun x lo hi H Q => r x lo hi H Q ∨ r' x lo hi H Q) := by
  intro pins s σ H x v vl vu lo hi sl Q I rx hs pl pu q
  rcases q with q | q
  · exact h pins s σ H x v vl vu lo hi sl Q I rx hs pl pu q
  · exact h' pins s σ H x v vl vu lo hi sl Q I rx hs pl pu q
def tSl (r : V → Option Int → Option Int → Hp → VK → Prop) (te : TE) (tl th : TO) : TE := fun σ H Q => te σ H fun x H1 => tl σ H1 fun l H2 => th σ H2 fun u H3 => r x l u H3 Q
/-- the items of xs[lo:hi] -/
def cutV (xs : List V) (lo hi : Option Int) : List V := (xs.drop (HT.sIx xs.length 0 lo)).take (HT.sIx xs.length xs.length hi - HT.sIx xs.length 0 lo)
/-- t[lo:hi], not the whole of it (the whole would be t itself) -/
def rSlT (K : PySem.W.Frag) : V → Option Int → Option Int → Hp → VK → Prop := fun x lo hi H Q => ∃ a xs, x = .ref a ∧ SqT K H a xs ∧
  ¬ (HT.sIx xs.length 0 lo = 0 ∧ HT.sIx xs.length xs.length hi = xs.length) ∧ ∀ p, H p = none → Q (.ref p) (upd H p (.tup (cutV xs lo hi)))
/-! ### t < u, t + u -/
def rLtT (K : PySem.W.Frag) : R2 := fun x y H Q => ∃ a b ns ms, x = .ref a ∧ y = .ref b ∧ SqT K H a (ns.map V.int) ∧ SqT K H b (ms.map V.int) ∧ Q (.bl (HT.lexLt ns ms)) H
/-- t + u, t not empty: u empty gives t itself -/
def rCatT (K : PySem.W.Frag) : R2 := fun x y H Q => ∃ a b xs ys, x = .ref a ∧ y = .ref b ∧ SqT K H a xs ∧ SqT K H b ys ∧ xs ≠ [] ∧ xs.length + ys.length ≤ sizeLine ∧
  (ys = [] → Q (.ref a) H) ∧ (ys ≠ [] → ∀ p, H p = none → Q (.ref p) (upd H p (.tup (xs ++ ys))))
end
end L2

namespace L2
open PySem PySem.Spec PyProof.Rows

/-! ### places -/
/-- the place that an index of any sign means -/
def ixN (n : Nat) (i : Int) : Option Nat := if 0 ≤ i then (if i < n then some i.toNat else none) else if -(n : Int) ≤ i then some (i + n).toNat else none
def atI {α : Type} (xs : List α) (i : Int) : Option α := (ixN xs.length i).bind fun j => xs[j]?
theorem ixN_seq {n : Nat} {i : Int} {j : Nat} (h : ixN n i = some j) : seqIndex? i n = some j ∧ j < n ∧ -(n : Int) ≤ i ∧ i < n := by
  unfold ixN at h
  by_cases h0 : 0 ≤ i
  · rw [if_pos h0] at h
    by_cases h1 : i < n
    · rw [if_pos h1] at h
      have e : i.toNat = j := Option.some.inj h
      exact ⟨by rw [seqIndex_of h0 h1, e], by omega, by omega, h1⟩
    · rw [if_neg h1] at h; cases h
  · rw [if_neg h0] at h
    by_cases h1 : -(n : Int) ≤ i
    · rw [if_pos h1] at h
      have e : (i + n).toNat = j := Option.some.inj h
      exact ⟨by rw [seqIndex_neg (by omega) h1, e], by omega, h1, by omega⟩
    · rw [if_neg h1] at h; cases h
theorem atI_get {α : Type} {xs : List α} {i : Int} {v : α} (h : atI xs i = some v) : ∃ j, seqIndex? i xs.length = some j ∧ xs[j]? = some v ∧ j < xs.length ∧ -(xs.length : Int) ≤ i ∧ i < xs.length := by
  unfold atI at h
  cases e : ixN xs.length i with
  | none => rw [e] at h; cases h
  | some j =>
    rw [e] at h
    obtain ⟨h1, h2, h3, h4⟩ := ixN_seq e
    exact ⟨j, h1, h, h2, h3, h4⟩
theorem atI_nat {α : Type} {xs : List α} {j : Nat} {v : α} (h : xs[j]? = some v) : atI xs (j : Int) = some v := by
  have hj : j < xs.length := (List.getElem?_eq_some_iff.mp h).1
  have e : ixN xs.length (j : Int) = some j := by
    unfold ixN
    rw [if_pos (by omega), if_pos (by omega)]; simp
  unfold atI; rw [e]; exact h
/-! ### what may be subscripted -/
/-- what stands as an index of a plain subscript -/
def PlainIx (b : Expr) : Prop := ∀ o i, subscripted b false o i = operate [o, i] (getItem o i)
/-- a subscript by values -/
def IxR (X : Cx) (r : R2) : Prop :=
  ∀ (value slice : Expr) (pins : List (Addr × Obj)) (s : Shared) (σ : St) (H : Hp) (x y : V) (v u : Value) (Q : VK), Inv X pins σ H s → RelV x v → RelV y u → r x y H Q →
    subscripted slice false v u = operate [v, u] (getItem v u) → wpAny (model X.prog X.w) X.A (subscriptTail value slice v u) (EP X pins σ Q) X.xe s
/-- a call of a builtin's method by values: the receiver, the arguments -/
def MtR (X : Cx) (id : String) (r : V → List V → Hp → VK → Prop) : Prop :=
  ∀ (pins : List (Addr × Obj)) (s : Shared) (σ : St) (H : Hp) (x : V) (xs : List V) (v : Value) (us : List Value) (Q : VK), Inv X pins σ H s → RelV x v → Vals xs us → r x xs H Q →
    wpAny (model X.prog X.w) X.A (call (.builtin id) (v :: us)) (EP X pins σ Q) X.xe s
section
variable {X : Cx} {a b : Expr} {ta tb : TE} {pos : Pos}
theorem IxR.or {r r' : R2} (h : IxR X r) (h' : IxR X r') : IxR X (fun x y H Q => r x y H Q ∨ r' x y H Q) := by
  intro value slice pins s σ H x y v u Q I rx ry q hs
  rcases q with q | q
  · exact h value slice pins s σ H x y v u Q I rx ry q hs
  · exact h' value slice pins s σ H x y v u Q I rx ry q hs
theorem MtR.or {id : String} {r r' : V → List V → Hp → VK → Prop} (h : MtR X id r) (h' : MtR X id r') : MtR X id (fun x xs H Q => r x xs H Q ∨ r' x xs H Q) := by
  intro pins s σ H x xs v us Q I rx rs q
  rcases q with q | q
  · exact h pins s σ H x xs v us Q I rx rs q
  · exact h' pins s σ H x xs v us Q I rx rs q
/-- a[b] -/
theorem pe_ix {r : R2} (hr : IxR X r) (ha : PE X a ta) (hb : PE X b tb) (hs : PlainIx b) : PE X (.Subscript a b pos) (tOp r ta tb) := by
  intro pins s σ H Q I h
  exact Subscript_ (binT ha hb I h fun v u s2 x y H2 I2 rx ry q => hr a b pins s2 σ H2 x y v u Q I2 rx ry q (hs _ _))

def rIxL (K : PySem.W.Frag) : R2 := fun x y H Q => ∃ p xs i v, x = .ref p ∧ y = .int i ∧ SqL K H p xs ∧ atI xs i = some v ∧ Q v H
def rIxT (K : PySem.W.Frag) : R2 := fun x y H Q => ∃ p xs i v, x = .ref p ∧ y = .int i ∧ SqT K H p xs ∧ atI xs i = some v ∧ Q v H
def rIxS : R2 := fun x y H Q => ∃ z i c, x = .str z ∧ y = .int i ∧ z.length ≤ sizeLine ∧ atI z.cps.toList i = some c ∧ Q (.str ⟨#[c]⟩) H
theorem ix_list : IxR X (rIxL X.K) := by
  intro value slice pins s σ H x y v u Q I rx ry h hs
  obtain ⟨p, xs, i, z, rfl, rfl, hq, he, q⟩ := h
  cases rx
  obtain ⟨t, rfl⟩ := ry
  obtain ⟨its, r, pl, hz⟩ := I.list hq
  obtain ⟨j, h1, h2, h3, h4, h5⟩ := atI_get he
  obtain ⟨w, ew, rw'⟩ := r.get h2
  have hl := r.length
  have hn := line63
  have fin : EP X pins σ Q w s := ⟨z, H, I, rw', q⟩
  by_cases h0 : 0 ≤ i
  · have hj : i.toNat = j := by
      rw [seqIndex_of h0 h5] at h1
      exact Option.some.inj h1
    exact item_listR pl.isList h0 (by omega) (by rw [hj]; simpa using ew) fin hs
  · have hj : (i + (its.toArray.size : Int)).toNat = j := by
      rw [seqIndex_neg (by omega) h4] at h1
      rw [List.size_toArray, ← hl]
      exact Option.some.inj h1
    exact subscriptTail_builtinR (x := w) pl.isList.typeIs slot_list_getitem.lookup
      (wpAny_getItem_list_neg (Q := fun r s' => r = w ∧ EP X pins σ Q r s') pl.isList (by omega) (by rw [List.size_toArray] <;> omega) (by omega) (by rw [hj]; simpa using ew) ⟨rfl, fin⟩) hs
theorem ix_tup : IxR X (rIxT X.K) := by
  intro value slice pins s σ H x y v u Q I rx ry h hs
  obtain ⟨p, xs, i, z, rfl, rfl, hq, he, q⟩ := h
  cases rx
  obtain ⟨t, rfl⟩ := ry
  obtain ⟨its, r, pl, hz⟩ := I.tuple hq
  obtain ⟨j, h1, h2, h3, h4, h5⟩ := atI_get he
  obtain ⟨w, ew, rw'⟩ := r.get h2
  have hl := r.length
  have hn := line63
  have fin : EP X pins σ Q w s := ⟨z, H, I, rw', q⟩
  exact subscriptTail_builtinR (x := w) pl.typeIs slot_tuple_getitem.lookup
    (getItem_tuple (j := j) (Q := fun r s' => r = w ∧ EP X pins σ Q r s') pl (by omega) (by omega) (by rw [List.size_toArray, ← hl]; exact h1) (by simpa using ew) ⟨rfl, fin⟩) hs
/-- list, tuple or str -/
def rIx (K : PySem.W.Frag) : R2 := fun x y H Q => rIxL K x y H Q ∨ rIxT K x y H Q ∨ rIxS x y H Q
/-! ### xs[i] = v, any sign -/
theorem Inv.lst {pins : List (Addr × Obj)} {σ : St} {H : Hp} {s : Shared} {p : Addr} {xs : List V} (I : Inv X pins σ H s) (h : H p = some (.lst xs)) :
    ∃ (its : List Value) (n : Nat), Vals xs its ∧ s.heap.get? p = some { cls := .type "list", data := .seq its.toArray n } ∧ xs.length ≤ sizeLine := by
  obtain ⟨z, its, n, r, e⟩ := I.hok p _ h
  exact ⟨its, n, r, e, z⟩
def rSetL : V → V → V → Hp → (Hp → Prop) → Prop := fun o i v H Q => ∃ p xs k j, o = .ref p ∧ i = .int k ∧ H p = some (.lst xs) ∧ ixN xs.length k = some j ∧ Q (upd H p (.lst (xs.set j v)))
/-! ### slices -/
/-- xs[lo:hi] of a list: a new list -/
def rSlL (K : PySem.W.Frag) : V → Option Int → Option Int → Hp → VK → Prop := fun x lo hi H Q => ∃ a xs, x = .ref a ∧ SqL K H a xs ∧ ∀ p, H p = none → Q (.ref p) (upd H p (.lst (cutV xs lo hi)))
/-! ### in, not in: flat items -/
def flatV : V → Bool
  | .non => true
  | .bl _ => true
  | .int _ => true
  | .str _ => true
  | _ => false
/-- == of flat values -/
def eqV : V → V → Bool
  | .non, .non => true
  | .bl a, .bl b => a == b
  | .bl a, .int b => (if a then 1 else 0) == b
  | .int a, .bl b => a == (if b then 1 else 0)
  | .int a, .int b => a == b
  | .str a, .str b => a == b
  | _, _ => false
/-- the items' answers, read off the values (a value's own answer does not lean on its token) -/
def eqU (x : V) (u : Value) : Bool := match u with
  | .none => eqV .non x
  | .bool b => eqV (.bl b) x
  | .int i _ => eqV (.int i) x
  | .str z _ => eqV (.str z) x
  | _ => false
def inV (x : V) (xs : List V) : Bool := xs.any fun y => eqV y x
/-- x in a list or tuple of flat items -/
def rIn (K : PySem.W.Frag) (neg : Bool) : R2 := fun x y H Q => ∃ p xs, y = .ref p ∧ (SqL K H p xs ∨ SqT K H p xs) ∧ flatV x = true ∧ xs.all flatV = true ∧ Q (.bl (if neg then !inV x xs else inV x xs)) H
/-! ### len, list(x), tuple(x) of any list or tuple that is read -/
theorem call_len_seq : CallR X (.builtin "len") (fun xs H Q => ∃ p ys, xs = [.ref p] ∧ (SqL X.K H p ys ∨ SqT X.K H p ys) ∧ Q (.int ys.length) H) := by
  intro pins s σ H xs us Q I r h
  obtain ⟨p, ys, rfl, hq, q⟩ := h
  obtain ⟨u, rfl, rx⟩ := vals1 r
  cases rx
  have hn := line63
  rcases hq with hq | hq
  · obtain ⟨its, r', pl, hz⟩ := I.list hq
    have hlen := r'.length
    exact Calls.call_len_list pl.isList (by simp only [List.size_toArray] <;> omega) ⟨.int ys.length, H, I.tok _, ⟨s.toks + 1, by rw [List.size_toArray, hlen]⟩, q⟩
  · obtain ⟨its, r', pl, hz⟩ := I.tuple hq
    have hlen := r'.length
    exact len_tuple pl (by simp only [List.size_toArray] <;> omega) ⟨.int ys.length, H, I.tok _, ⟨s.toks + 1, by rw [List.size_toArray, hlen]⟩, q⟩
theorem CallR.or {f : Value} {r r' : List V → Hp → VK → Prop} (h : CallR X f r) (h' : CallR X f r') : CallR X f (fun xs H Q => r xs H Q ∨ r' xs H Q) := by
  intro pins s σ H xs us Q I rs q
  rcases q with q | q
  · exact h pins s σ H xs us Q I rs q
  · exact h' pins s σ H xs us Q I rs q
theorem call_list_of : CallR X (.type "list") (fun xs H Q => ∃ p ys, xs = [.ref p] ∧ (SqL X.K H p ys ∨ SqT X.K H p ys) ∧ ∀ l, H l = none → Q (.ref l) (upd H l (.lst ys))) := by
  intro pins s σ H xs us Q I r h
  obtain ⟨p, ys, rfl, hq, q⟩ := h
  obtain ⟨u, rfl, rx⟩ := vals1 r
  cases rx
  have fin : ∀ (its : List Value), Vals ys its → ys.length ≤ sizeLine → ∀ (h' : Heap) (c' : Nat), (∀ b o', s.heap.get? b = some o' → h'.get? b = some o') →
      h'.get? s.heap.objs.size = some { cls := .type "list", dict := none, data := .seq its.toArray c', slots := #[] } → EP X pins σ Q (.ref s.heap.objs.size) { s with heap := h' } := fun its r' hz h' c' kp e =>
    ⟨.ref s.heap.objs.size, _, I.laid (t' := s.toks) kp (Nat.le_refl _) (show ObjOk X.prog X.w _ h' _ (.lst ys) from ⟨hz, its, c', r', e⟩), rfl, q _ (I.hok.fresh (Nat.le_refl _))⟩
  rcases hq with hq | hq
  · obtain ⟨its, r', pl, hz⟩ := I.list hq
    have hlen := r'.length
    obtain ⟨o, ho, hc, n, hd⟩ := pl.isList
    exact call_list_seq p (.inl rfl) ho hc hd (fun h' c' kp e => fin its r' hz h' c' kp e) (by simp only [List.size_toArray] <;> omega)
  · obtain ⟨its, r', pl, hz⟩ := I.tuple hq
    have hlen := r'.length
    obtain ⟨o, ho, hc, n, hd⟩ := pl
    exact call_list_seq p (.inr rfl) ho hc hd (fun h' c' kp e => fin its r' hz h' c' kp e) (by simp only [List.size_toArray] <;> omega)
theorem call_tuple_of : CallR X (.type "tuple") (fun xs H Q => ∃ p ys, xs = [.ref p] ∧ ((SqL X.K H p ys ∧ ∀ l, H l = none → Q (.ref l) (upd H l (.tup ys))) ∨ (SqT X.K H p ys ∧ Q (.ref p) H))) := by
  intro pins s σ H xs us Q I r h
  obtain ⟨p, ys, rfl, h⟩ := h
  obtain ⟨u, rfl, rx⟩ := vals1 r
  cases rx
  rcases h with ⟨hq, q⟩ | ⟨hq, q⟩
  · obtain ⟨its, r', pl, hz⟩ := I.list hq
    have hlen := r'.length
    refine call_tuple_list pl.isList (fun h' kp => ?_) (by simp only [List.size_toArray] <;> omega)
    have I1 : Inv X pins σ H { s with heap := h' } := I.kept (t' := s.toks) kp
    have I2 : Inv X pins σ (upd H h'.objs.size (.tup ys)) { s with heap := h'.push { cls := .type "tuple", data := .seq its.toArray } } :=
      I1.laid (t' := s.toks) (fun b o e => Heap.get?_push_of_some _ e) (Nat.le_refl _) (show ObjOk X.prog X.w _ _ _ (.tup ys) from ⟨hz, its, r', IsTup.new _ _⟩)
    exact ⟨.ref h'.objs.size, _, I2, rfl, q _ (I1.hok.fresh (Nat.le_refl _))⟩
  · obtain ⟨its, r', pl, hz⟩ := I.tuple hq
    exact call_tuple_same pl ⟨.ref p, H, I, rfl, q⟩

/-! ### the call of a builtin's method: o.m(..) -/
/-- the value is of that builtin type -/
def tyV (K : PySem.W.Frag) (T : String) (x : V) (H : Hp) : Prop := match x with
  | .str _ => T = "str"
  | .int _ => T = "int"
  | .ref p => (T = "list" ∧ ∃ xs, SqL K H p xs) ∨ (T = "tuple" ∧ ∃ o, K.lookup p = some o ∧ o.cls = .type "tuple" ∧ o.dict = none) ∨
      (T = "dict" ∧ ((∃ kvs, H p = some (.dK kvs)) ∨ ∃ kvs, H p = some (.dT kvs))) ∨ (T = "set" ∧ ∃ S n, H p = some (.set S n))
  | _ => False
theorem tyV_is {pins : List (Addr × Obj)} {σ : St} {H : Hp} {s : Shared} {T : String} {x : V} {v : Value} (I : Inv X pins σ H s) (r : RelV x v) (ty : tyV X.K T x H) :
    s.TypeIs v T ∧ ∀ a, v = .ref a → ∃ ob, s.heap.get? a = some ob ∧ ob.dict = none := by
  cases x with
  | str z =>
    obtain ⟨t, rfl⟩ := r
    cases (show T = "str" from ty)
    exact ⟨typeIs_str s z t, fun _ e => nomatch e⟩
  | int i =>
    obtain ⟨t, rfl⟩ := r
    cases (show T = "int" from ty)
    exact ⟨typeIs_int s i t, fun _ e => nomatch e⟩
  | ref p =>
    cases r
    rcases ty with ⟨rfl, xs, hq⟩ | ⟨rfl, o, hk, hc, hd⟩ | ⟨rfl, hk⟩ | ⟨rfl, S, n, hk⟩
    · obtain ⟨its, _, pl, _⟩ := I.list hq
      refine ⟨pl.isList.typeIs, fun a e => ?_⟩
      cases e
      obtain ⟨o, n, e, c, hd, _⟩ := pl
      exact ⟨o, e, hd⟩
    · refine ⟨⟨o, I.kIn p o hk, hc⟩, fun a e => ?_⟩
      cases e
      exact ⟨o, I.kIn _ o hk, hd⟩
    · have z : ∃ o, s.heap.get? p = some o ∧ o.ExactDict := by
        rcases hk with ⟨kvs, hk⟩ | ⟨kvs, hk⟩
        · obtain ⟨_, _, _, _, o, _, _, e, ex, _⟩ := I.hok p _ hk
          exact ⟨o, e, ex⟩
        · obtain ⟨_, _, _, _, o, _, _, e, ex, _⟩ := I.hok p _ hk
          exact ⟨o, e, ex⟩
      obtain ⟨o, e, ex⟩ := z
      refine ⟨⟨o, e, ex.1⟩, fun a e2 => ?_⟩
      cases e2
      exact ⟨o, e, ex.2.1⟩
    · obtain ⟨o, _, _, _, e, ex, _⟩ := I.hok p _ hk
      refine ⟨⟨o, e, ex.1⟩, fun a e2 => ?_⟩
      cases e2
      exact ⟨o, e, ex.2.1⟩
  | _ => exact False.elim ty
def tBM0 (K : PySem.W.Frag) (T : String) (r : V → List V → Hp → VK → Prop) (to : TE) : TE := fun σ H Q => to σ H fun x H1 => tyV K T x H1 ∧ r x [] H1 Q
def tBM (K : PySem.W.Frag) (T : String) (r : V → List V → Hp → VK → Prop) (to : TE) (t : TA) : TE := fun σ H Q => to σ H fun x H1 => tyV K T x H1 ∧ t σ H1 fun xs H2 => r x xs H2 Q
variable {o e : Expr} {es : List Expr} {to : TE} {t : TA} {name : Str} {apos cpos : Pos} {T id : String} {r : V → List V → Hp → VK → Prop}
theorem pe_bm (pa : PlainAttrs T) (slot : Slot T name id) (hty : typeOf (.builtin id) = pure (.type "method_descriptor")) (hm : MtR X id r) (ho : PE X o to) (ha : PA X (e :: es) t)
    (hbase : attributeBase o name X.env (eval o X.env) = eval o X.env := by rfl)
    (hfew : ((backTo cpos (starEach (e :: es) X.env)).all (fun x => !x.1) && (backToKw cpos (keywordEach [] X.env)).all (fun x => x.1.isSome)
      && decide ((e :: es).length + ([] : List Keyword).length + (if ([] : List Keyword).isEmpty then 0 else 1) < 30)) = true := by rfl)
    (hline : (apos.endLine == cpos.line) = true := by rfl) (hs : starEach (e :: es) X.env = (false, eval e X.env) :: starEach es X.env := by rfl) (hplain : (backTo cpos (starEach es X.env)).any (·.1) = false := by rfl) :
    PE X (.Call (.Attribute o name apos) (e :: es) [] cpos) (tBM X.K T r to t) := by
  intro pins s σ H Q I h
  refine wpAny_Call_method_late hbase hfew hline rfl (thn (ho pins s σ H _ I h) fun v s1 ⟨x, H1, I1, r1, ty, q1⟩ => ?_)
  obtain ⟨h1, h2⟩ := tyV_is I1 r1 ty
  refine ⟨T, id, pa, slot, hty, h1, h2, ?_⟩
  have hA := ha cpos pins s1 σ H1 _ I1 q1
  rw [hs] at hA ⊢
  refine Calls.callWith_builtin (by show (false || (backTo cpos (starEach es X.env)).any (·.1)) = false; rw [hplain] <;> rfl) (Calls.evalArgs_plain ?_)
  exact thn hA fun us s2 ⟨vs, H2, I2, r2, q2⟩ => hm pins s2 σ H2 x vs v us Q I2 r1 r2 q2
/- xs.append(e), list.index on a module's tuple .. are MtR facts of 06m -/
end
end L2

namespace L2
open PySem PySem.Spec PyProof.Rows

def MtM (X : Cx) (id : String) (r : V → List V → Hp → VK → Prop) : Prop :=
  ∀ (pins : List (Addr × Obj)) (s : Shared) (σ : St) (H : Hp) (x : V) (xs : List V) (v : Value) (us : List Value) (Q : VK), Inv X pins σ H s → RelV x v → Vals xs us → r x xs H Q →
    wpAny (model X.prog X.w) X.A (call (.builtin id) (v :: us)) (EP X pins σ Q) X.xe s

/-! ### lists of values -/
theorem Vals.one : ∀ {x : V} {us : List Value}, Vals [x] us → ∃ u, us = [u] ∧ RelV x u
  | _, _, .cons r .nil => ⟨_, rfl, r⟩
theorem Vals.two : ∀ {x y : V} {us : List Value}, Vals [x, y] us → ∃ u v, us = [u, v] ∧ RelV x u ∧ RelV y v
  | _, _, _, .cons r (.cons q .nil) => ⟨_, _, rfl, r, q⟩
theorem Vals.zero : ∀ {us : List Value}, Vals [] us → us = []
  | _, .nil => rfl
theorem Vals.dropLast {xs : List V} {us : List Value} (h : Vals xs us) : Vals xs.dropLast us.dropLast := by
  induction h with
  | nil => exact .nil
  | cons r t ih =>
    cases t with
    | nil => exact .nil
    | cons q t' => exact .cons r ih
theorem Vals.eraseIdx : ∀ {xs : List V} {us : List Value} (i : Nat), Vals xs us → Vals (xs.eraseIdx i) (us.eraseIdx i)
  | _, _, _, .nil => .nil
  | _, _, 0, .cons _ t => t
  | _, _, i + 1, .cons r t => .cons r (Vals.eraseIdx i t)
theorem Vals.reverse {xs : List V} {us : List Value} (h : Vals xs us) : Vals xs.reverse us.reverse := by
  induction h with
  | nil => exact .nil
  | cons r t ih => rw [List.reverse_cons, List.reverse_cons]; exact Vals.append ih (.cons r .nil)
theorem len_erase {α : Type} : ∀ (l : List α) (i : Nat), (l.eraseIdx i).length ≤ l.length
  | [], _ => Nat.le_refl _
  | _ :: _, 0 => Nat.le_succ _
  | _ :: r, i + 1 => Nat.succ_le_succ (len_erase r i)
section
variable {X : Cx} {pins : List (Addr × Obj)} {σ : St} {H : Hp} {s : Shared} {l b : Addr} {xs ys zs : List V}

/-! ### the two steps: a tracked list is rewritten, a new list is laid -/
theorem Inv.lset {its its' : List Value} {n : Nat} {f : Array Value → Array Value} {t' : Nat} (I : Inv X pins σ H s) (hH : H l = some (.lst xs))
    (e : s.heap.get? l = some { cls := .type "list", data := .seq its.toArray n }) (hf : f its.toArray = its'.toArray) (hv : Vals ys its') (hz : ys.length ≤ sizeLine) :
    Inv X pins σ (upd H l (.lst ys)) { s with heap := s.heap.update l (Obj.mapSeq f), toks := t' } := by
  have q := PySem.IsL.update e f
  rw [hf] at q
  refine I.write (x := l) (e := l) (by rw [hH]; exact trivial) (.inl rfl) (fun b' u hb hu => (Heap.get?_update_other s.heap (Obj.mapSeq f) (Ne.symm hb)).trans hu) ⟨_, q⟩ ?_
  exact ⟨hz, its', _, hv, q⟩
theorem Inv.fresh (I : Inv X pins σ H s) : H s.heap.objs.size = none := I.hok.fresh (Nat.le_refl _)
theorem Inv.lstM (I : Inv X pins σ H s) (hH : H l = some (.lst xs)) : xs.length ≤ sizeLine ∧ ∃ (its : List Value) (n : Nat), Vals xs its ∧ xs.length = its.length ∧ s.heap.get? l = some { cls := .type "list", data := .seq its.toArray n } := by
  obtain ⟨z, its, n, r, e⟩ := I.hok l _ hH
  exact ⟨z, its, n, r, r.length, e⟩

theorem notLongL {n : Nat} (h : n ≤ sizeLine) : Builtin.List.listTooLong n = false := by
  unfold Builtin.List.listTooLong
  exact decide_eq_false (by omega)
end

section
variable {X : Cx}

/-! ### methods -/
def rAppend : V → List V → Hp → VK → Prop := fun x vs H Q => ∃ l xs y, x = .ref l ∧ vs = [y] ∧ H l = some (.lst xs) ∧ xs.length < sizeLine ∧ Q .non (upd H l (.lst (xs ++ [y])))
theorem mt_append : MtM X "list.append" rAppend := by
  intro pins s σ H x vs v us Q I rx rv h
  obtain ⟨l, xs, y, rfl, rfl, hH, hz, q⟩ := h
  cases rx
  obtain ⟨u, rfl, ru⟩ := rv.one
  obtain ⟨z, its, n, r, hl, e⟩ := I.lstM hH
  refine call_meets F.slot_list_append ⟨_, e, rfl⟩ F.entry_list_append (F.args_list_append_2 _ _) (PySem.list_append l its.toArray n u (by rw [List.size_toArray]; omega)) ⟨e, ?_⟩
  refine ⟨.non, _, I.lset (its' := its ++ [u]) hH e (by simp) (r.append (.cons ru .nil)) ?_, rfl, q⟩
  rw [List.length_append, List.length_singleton]
  omega

def rExtend : V → List V → Hp → VK → Prop := fun x vs H Q => ∃ l b xs zs, x = .ref l ∧ vs = [.ref b] ∧ H l = some (.lst xs) ∧ H b = some (.lst zs) ∧ xs.length + zs.length ≤ sizeLine ∧ Q .non (upd H l (.lst (xs ++ zs)))
theorem mt_extend : MtM X "list.extend" rExtend := by
  intro pins s σ H x vs v us Q I rx rv h
  obtain ⟨l, b, xs, zs, rfl, rfl, hH, hB, hz, q⟩ := h
  cases rx
  obtain ⟨u, rfl, ru⟩ := rv.one
  cases ru
  obtain ⟨z, its, n, r, hl, e⟩ := I.lstM hH
  obtain ⟨z2, its2, n2, r2, hl2, e2⟩ := I.lstM hB
  have hsz : its.toArray.size + its2.toArray.size ≤ sizeLine := by rw [List.size_toArray, List.size_toArray]; omega
  have hlong : ¬ (!its.toArray.isEmpty && Builtin.List.listTooLong (its.toArray.size + its2.toArray.size)) = true := by
    rw [notLongL hsz, Bool.and_false]
    exact Bool.false_ne_true
  refine call_meets F.slot_list_extend ⟨_, e, rfl⟩ F.entry_list_extend (F.args_list_extend_2 _ _)
    (AutoSeq1.list_extend_list_list_0 l its.toArray n b its2.toArray n2 hlong (by rw [List.size_toArray]; omega) (by omega)) ⟨e, e2, ?_⟩
  refine ⟨.non, _, I.lset (its' := its ++ its2) hH e (by simp) (r.append r2) ?_, rfl, q⟩
  rw [List.length_append]
  omega

def rPop : V → List V → Hp → VK → Prop := fun x vs H Q => ∃ l xs y, x = .ref l ∧ vs = [] ∧ H l = some (.lst xs) ∧ xs[xs.length - 1]? = some y ∧ Q y (upd H l (.lst xs.dropLast))
def rPopAt : V → List V → Hp → VK → Prop := fun x vs H Q => ∃ l xs i k y, x = .ref l ∧ vs = [.int i] ∧ H l = some (.lst xs) ∧ -(2 ^ 63) ≤ i ∧ i < 2 ^ 63 ∧ seqIndex? i xs.length = some k ∧ xs[k]? = some y ∧ Q y (upd H l (.lst (xs.eraseIdx k)))
theorem mt_popAt : MtM X "list.pop" rPopAt := by
  intro pins s σ H x vs v us Q I rx rv h
  obtain ⟨l, xs, i, k, y, rfl, rfl, hH, h1, h2, hk, hy, q⟩ := h
  cases rx
  obtain ⟨u, rfl, ru⟩ := rv.one
  obtain ⟨t, rfl⟩ := ru
  obtain ⟨z, its, n, r, hl, e⟩ := I.lstM hH
  obtain ⟨w, hw, rw'⟩ := r.get hy
  refine call_meets F.slot_list_pop ⟨_, e, rfl⟩ F.entry_list_pop (F.args_list_pop_2 _ _)
    (MeetsSeq.list_pop_at l its.toArray n i t k w (fitsIndex_both h1 h2) (by rw [List.size_toArray, ← hl]; exact hk) (by rw [← Array.getElem?_toList]; exact hw) (by rw [List.size_toArray]; omega)) ⟨e, ?_⟩
  refine ⟨y, _, I.lset (its' := its.eraseIdx k) hH e ?_ (r.eraseIdx k) ?_, rw', q⟩
  · show its.toArray.eraseIdxIfInBounds k = (its.eraseIdx k).toArray
    rw [List.eraseIdxIfInBounds_toArray]
  · have := len_erase xs k
    omega

def rReverse : V → List V → Hp → VK → Prop := fun x vs H Q => ∃ l xs, x = .ref l ∧ vs = [] ∧ H l = some (.lst xs) ∧ Q .non (upd H l (.lst xs.reverse))
def rClear : V → List V → Hp → VK → Prop := fun x vs H Q => ∃ l xs, x = .ref l ∧ vs = [] ∧ H l = some (.lst xs) ∧ Q .non (upd H l (.lst []))
/-! ### list + list, list += list, list * int -/
def rCat : R2 := fun x y H Q => ∃ l b xs zs, x = .ref l ∧ y = .ref b ∧ H l = some (.lst xs) ∧ H b = some (.lst zs) ∧ xs.length + zs.length ≤ sizeLine ∧ ∀ p, H p = none → Q (.ref p) (upd H p (.lst (xs ++ zs)))
/-- a list times an int (a negative one is nothing) -/
def rRep : R2 := fun x y H Q => ∃ l k xs, x = .ref l ∧ y = .int k ∧ H l = some (.lst xs) ∧ -(2 ^ 63) ≤ k ∧ k < 2 ^ 63 ∧ xs.length * k.toNat ≤ sizeLine ∧
  ∀ p, H p = none → Q (.ref p) (upd H p (.lst (List.replicate k.toNat xs).flatten))
/-! ### del xs[i] -/
end

/-! ### xs[a:b] = ys -/
section
variable {prog : Program} {w : World} {A : Around} {E : Value → Shared → Prop} {s : Shared}
set_option maxRecDepth 100000 in
end

section
variable {X : Cx}
end
end L2

namespace Att
open PySem PySem.W PySem.Calls PyProof.Rows

/-! ### the script -/
theorem ints_of_wellAll {P : Params} {h : Heap} : ∀ (ns : List Int) (vs : List Value), WellAll P h vs (ns.map WData.int) → IntsAre vs ns := by
  intro ns
  induction ns with
  | nil =>
    intro vs w
    rw [List.map_nil] at w
    cases w
    exact .nil
  | cons n ns ih =>
    intro vs w
    rw [List.map_cons] at w
    cases w with
    | cons a b =>
      cases a
      exact .cons _ _ (ih _ b)

theorem script_of {l : OpenLaw} {n : Nat} (hn : l.most = some n) {P : Params} {h : Heap} {args : List WData} {vals : List Value}
    (hpre : l.row.toRowW.claim.pre args = true) (hwl : WellAll P h vals args) :
    ∃ a vs ns, vals = [Value.ref a] ∧ args = [WData.list (ns.map WData.int)] ∧ h.get? a = some { cls := .type "list", data := .seq vs.toArray } ∧ IntsAre vs ns ∧ ns.length ≤ n := by
  have hsh : WShape.hasAll [] args [.list .int] = true := (pre_splitW hpre).1
  have hc : l.pre.holds [] { args := args } = true := (pre_splitW hpre).2
  obtain ⟨d, r, rfl, h1, h2⟩ := hasAllW_cons hsh
  obtain rfl := hasAllW_nil h2
  obtain ⟨xs, rfl, h3⟩ := hasW_list h1
  obtain ⟨ns, rfl⟩ := items_int h3
  have hlen : ns.length ≤ n := by
    unfold OpenLaw.pre at hc
    have h4 : (WTm.not (.lt (.lit (.int (n : Int))) (.len (.arg 0)))).holds [] { args := [.list (ns.map .int)] } = true := by
      have h4 := (holds_andW hc).1
      rw [hn] at h4
      exact h4
    have h5 := condW_of h4 (w_not (w_lt w_lit (w_len_list (w_arg rfl))))
    rw [List.length_map] at h5
    refine Nat.le_of_not_lt fun q => ?_
    have q' : (n : Int) < ((ns.length : Nat) : Int) := by omega
    first
      | (rw [decide_eq_true q'] at h5; exact absurd h5 (by decide))
      | (simp at h5; omega)
  cases hwl with
  | cons w1 w2 =>
    cases w2
    cases w1 with
    | list ho hall => exact ⟨_, _, ns, rfl, rfl, ho, ints_of_wellAll ns _ hall, hlen⟩

theorem post_true (l : OpenLaw) (args : List WData) : l.row.toRowW.claim.post args (.bool true) args = true :=
  postW_of (r := l.row.toRowW) (X := (true == true))
    (show WShape.has [] (.bool true) .bool = true by first | rfl | decide | simp [WShape.has, WShape.arms, WShape.armsAll])
    (show (WTm.eq .res (.lit (.bool true))).value [] { args := args, res := some (.bool true), after := args } = some (.bool (true == true)) from w_eq_bool (w_res rfl) w_lit) rfl

/-! ### the attachment: holds_open's last premise (the goal 'hc' behind k_head) from a wpAny of the law's body -/
/-- the same from a codeAny of the CALL (for a layer whose function contracts speak of calls) -/
theorem attach_call {l : OpenLaw} {n : Nat} {q : Program} {loose : List Str} {XP : (Str → Option Value) → Heap → Prop} {YP : World → Heap → Prop} {d : DefRec}
    (hn : l.most = some n) (hdf : d.params.defaults = [])
    (call : ∀ (w : World) (s₀ s₁ : Shared) (mg mb : Str → Option Value) (fa : Addr) (o : Obj) (pm cd doc : Value) (a : Addr) (vs : List Value) (ns : List Int),
      Ground q loose [] XP w s₀ mg mb s₁.heap → YP w s₁.heap →
      s₁.heap.get? fa = some o → o.data = .func (docDef d.name d.params d.body d.scope pm cd doc) → s₁.heap.CodeRec cd d.name → mg d.name = some (.ref fa) →
      s₁.heap.get? a = some { cls := .type "list", data := .seq vs.toArray } → IntsAre vs ns → ns.length ≤ n → s₁.gens = #[] →
      codeAny (model l.prog w) callerA (.call (.ref fa) ⟨[.ref a], []⟩) (fun r s' => r = .ok (.ret (.bool true)) ∧ OldK s₁.heap s'.heap ∧ s'.os = s₁.os ∧ AllBare s'.gens) s₁) :
    WalkO q loose XP YP l.row.toRowW d [] (fun f vs => PySem.call f vs) := by
  intro w s₀ s₁ mg mb G Y fa o pm cd doc dV kV ho hd hcd hD hmg hg args vals as hpre hlay hrd hwl hlo
  obtain rfl : dV = .none := Dflts.none hD hdf
  obtain rfl : kV = .none := Dflts.noKw hD
  obtain ⟨a, vs, ns, rfl, rfl, hobj, hints, hlen⟩ := script_of hn hpre hwl
  refine enter_call (codeAny_mono (call w s₀ s₁ mg mb fa o pm cd doc a vs ns G Y ho (fd_plain hd) hcd hmg hobj hints hlen hg) fun r s' hq => ?_)
  obtain ⟨rfl, h2, h3, h4⟩ := hq
  exact ⟨.inl ⟨.bool true, .bool true, [], rfl, fun _ => rfl, .bool true, post_true l _, fun _ => ⟨List.Pairwise.nil, fun _ hm => (nomatch hm)⟩⟩, h2, h3, h4⟩

/-! ### rules over ANY heap (no ledger) from facts about the written part K: the library's own take a ledger (News) for what they write -/
section
variable {prog : Program} {w : World} {A : Around} {E : Value → Shared → Prop} {s : Shared} {K : Frag}

/-! the whole heap as the ledger: makes every rule that writes through a ledger a rule over any heap -/
def noObjs (h : Heap) : Heap := { h with objs := #[] }
def ledger (h : Heap) (L d : Addr) : List (Addr × Obj) := (List.range h.objs.size).filterMap fun a => if a = L ∨ a = d then none else (h.get? a).map fun o => (a, o)
end
end Att

namespace L2
open PySem PySem.Spec PyProof.Rows

theorem vals_ints : ∀ {vs : List Value} {ns : List Int}, IntsAre vs ns → Vals (ns.map V.int) vs
  | _, _, .nil => .nil
  | _, _, .cons n t h => .cons ⟨t, rfl⟩ (vals_ints h)

/-- nothing is tracked but the script, known to the object (or it is an object of the module) -/
def Only (H : Hp) : Prop := ∀ b, H b = none ∨ ∃ o xs, H b = some (.frz o (.lst xs))

/-- THE HEAD: the law's promise, at the heap behind the top. F, the promise of the law's def, may use that base is part of the heap (so K.In base, base.Ns mainGlobals mg stand in Mod) -/
theorem law_call {P : Program} {w : World} {K : PySem.W.Frag} {mg mb : Str → Option Value} {CX : CXT} {k : Nat} {fa a : Addr} {fd : FuncData} {x : Str} {sp : Sp} {s₁ : Shared} {vs : List Value} {ns : List Int}
    (KX : K.In s₁.heap) (hns : s₁.heap.Ns mainGlobals mg) (hb : s₁.heap.Ns builtinsNs mb) (hbb : ∀ x : Str, x ≠ "__name__" → mb x = bootBuiltins x) (hlim : s₁.heap.NoLimit) (hg : s₁.gens = #[])
    (ha : s₁.heap.get? a = some { cls := .type "list", data := .seq vs.toArray }) (hi : IntsAre vs ns) (hl : ns.length ≤ sizeLine) (hr : Room k callerA)
    (F : ∀ base : Heap, K.In base → base.Ns mainGlobals mg → FnOk P w K mg base CX k fa fd [x] sp) (hbind : ∀ (s : Shared) (u : Value), BindsTo s fd ⟨[u], []⟩ [(x, u)])
    (hsp : ∀ H : Hp, Only H → SqL K H a (ns.map V.int) → sp [.ref a] H (fun v _ => v = .bl true) fun _ _ _ => False)
    (hCX : ∀ H e s', CX [] H s₁ (fun _ _ _ => False) e s' → False) :
    codeAny (model P w) callerA (.call (.ref fa) ⟨[.ref a], []⟩) (fun r s' => r = .ok (.ret (.bool true)) ∧ OldK s₁.heap s'.heap ∧ s'.os = s₁.os ∧ AllBare s'.gens) s₁ := by
  have rv := vals_ints hi
  have lenV := hi.length
  -- from an abstract heap in which nothing but the script may be tracked
  have core : ∀ H : Hp, Only H → SqL K H a (ns.map V.int) → HOk P w H s₁.heap → (∀ b, H b ≠ none → b = a) → (H a ≠ none → K.lookup a = none) →
      codeAny (model P w) callerA (.call (.ref fa) ⟨[.ref a], []⟩) (fun r s' => r = .ok (.ret (.bool true)) ∧ OldK s₁.heap s'.heap ∧ s'.os = s₁.os ∧ AllBare s'.gens) s₁ := by
    intro H hO hS hok hA hK
    have base_of : ∀ {b : Addr} {o : Obj}, s₁.heap.get? b = some o → H b = none → (hidT s₁.heap H).get? b = some o := fun e n => hidT_get e n
    have noA : ∀ {b : Addr} {o : Obj} {es : Array DictEntry} {ep : Nat}, s₁.heap.get? b = some o → o.data = .dict es ep → H b = none := fun {b o es ep} e d => by
      cases q : H b with
      | none => rfl
      | some u =>
        have e' : b = a := hA b (by rw [q]; simp)
        subst e'
        rw [ha] at e; cases e
        have d' : Data.seq vs.toArray _ = Data.dict es ep := d
        cases d'
    have nsK : ∀ {b : Addr} {m : Str → Option Value}, s₁.heap.Ns b m → (hidT s₁.heap H).Ns b m := fun {b m} ⟨o, es, ep, e, d, r⟩ => ⟨o, es, ep, base_of e (noA e d), d, r⟩
    have hKb : K.In (hidT s₁.heap H) := fun b o e => base_of (KX b o e) (by
      cases q : H b with
      | none => rfl
      | some u =>
        have e' : b = a := hA b (by rw [q]; simp)
        subst e'
        rw [hK (by rw [q]; simp)] at e; cases e)
    have hM : Mod K mg (hidT s₁.heap H) := ⟨hKb, nsK hns, ⟨mb, nsK hb, hbb⟩, let ⟨mc, h1, h2⟩ := hlim; ⟨mc, nsK h1, h2⟩⟩
    have e0 : Env0 P w K mg (hidT s₁.heap H) callerA [] s₁ H := ⟨rfl, hM, fun b o e => of_hidT e, Nat.le_of_eq (hidT_size _ _), trivial, fun b hb => absurd (show b ∈ ([] : List Addr) from hb) (by simp), hok, .of_eq hg⟩
    refine codeAny_mono ((F _ hKb (nsK hns)).run callerA [] s₁ H ⟨[.ref a], []⟩ [.ref a] [.ref a] _ _ hr e0 (hbind s₁ (.ref a)) (.cons rfl .nil) (hsp H hO hS)) fun r s' h => ?_
    cases r with
    | error e => exact (hCX H e s' h).elim
    | ok fl =>
      cases fl with
      | next => exact False.elim h
      | brk => exact False.elim h
      | cont => exact False.elim h
      | ret u =>
        obtain ⟨v, H', os, bare, un, hok', r', q⟩ := h
        have q' : v = .bl true := q
        subst q'
        obtain rfl : u = Value.bool true := r'
        refine ⟨rfl, OldK.of_keep fun b o e => ?_, os, bare⟩
        cases q : H b with
        | none => exact un.keep b o e q (by intro z; exact absurd (show b ∈ ([] : List Addr) from z) (by simp)) (by simp)
        | some u =>
          rcases hO b with z | ⟨ob, xs, z⟩
          · rw [q] at z; cases z
          · have z2 := un.frzs b ob _ z
            obtain ⟨e1, _⟩ := hok b _ z
            obtain ⟨e2, _⟩ := hok' b _ z2
            rw [e] at e1; cases e1
            exact e2
  cases hk : K.lookup a with
  | some o =>
    -- the script is one of the module's own objects
    have e := KX a o hk
    rw [ha] at e
    cases e
    refine core (fun _ => none) (fun _ => .inl rfl) (.inr ⟨_, vs.toArray, _, hk, rfl, rfl, rfl, by rw [List.size_toArray, lenV]; exact hl, by simpa using rv⟩) (fun b u z => by have z' : (none : Option HO) = some u := z; cases z') (fun b z => absurd rfl z) fun z => absurd rfl z
  | none =>
    refine core (fun b => if b = a then some (.frz { cls := .type "list", data := .seq vs.toArray } (.lst (ns.map V.int))) else none) (fun b => ?_) (.inl (.inr ⟨{ cls := .type "list", data := .seq vs.toArray }, if_pos rfl⟩)) (fun b u z => ?_) (fun b z => ?_) fun _ => hk
    · by_cases hb : b = a
      · exact .inr ⟨_, _, if_pos hb⟩
      · exact .inl (if_neg hb)
    · by_cases hb : b = a
      · have z' := (if_pos hb).symm.trans z
        cases z'
        subst hb
        exact ⟨ha, by rw [List.length_map]; exact hl, vs, _, rv, ha⟩
      · have z' := (if_neg hb).symm.trans z
        cases z'
    · by_cases hb : b = a
      · exact hb
      · exact absurd (if_neg hb) z
end L2

namespace L2
open PySem PySem.Spec PyProof.Rows

abbrev KOf {K : PySem.W.Frag} {h : Heap} (_ : K.In h) : PySem.W.Frag := K

/-- the goal that k_head leaves (case hc), from the law's promise. F gives the function object fd (K's own) once, then the promise over every base -/
theorem walk_of {l : PySem.W.OpenLaw} {n k : Nat} {q : Program} {loose : List Str} {XP : (Str → Option Value) → Heap → Prop} {YP : World → Heap → Prop} {d : DefRec} {K : Params → PySem.W.Frag} {CX : World → CXT} {sp : World → Sp} {x : Str}
    (hn : l.most = some n) (hn2 : n ≤ sizeLine) (hdf : d.params.defaults = []) (hr : Room k callerA)
    (hY : ∀ (w : World) (h : Heap), YP w h → (K w.params).In h)
    (F : ∀ (w : World) (mg : Str → Option Value) (fa : Addr) (h : Heap), (K w.params).In h → h.Ns mainGlobals mg → mg d.name = some (.ref fa) →
      ∃ fd : FuncData, (∀ (s : Shared) (u : Value), BindsTo s fd ⟨[u], []⟩ [(x, u)]) ∧
        ∀ base : Heap, (K w.params).In base → base.Ns mainGlobals mg → FnOk l.prog w (K w.params) mg base (CX w) k fa fd [x] (sp w))
    (hsp : ∀ (w : World) (H : Hp) (a : Addr) (ns : List Int), ns.length ≤ n → Only H → SqL (K w.params) H a (ns.map V.int) → sp w [.ref a] H (fun v _ => v = .bl true) fun _ _ _ => False)
    (hCX : ∀ (w : World) (H : Hp) (s : Shared) (e : Value) (s' : Shared), CX w [] H s (fun _ _ _ => False) e s' → False) :
    PySem.W.WalkO q loose XP YP l.row.toRowW d [] (fun f vs => PySem.call f vs) := by
  refine Att.attach_call hn hdf fun w s₀ s₁ mg mb fa o pm cd doc a vs ns G Y ho hd hcd hmg hobj hints hlen hg => ?_
  have KX := hY w _ Y
  obtain ⟨fd, hb, hF⟩ := F w mg fa _ KX G.T.g hmg
  exact law_call KX G.T.g G.T.b G.T.builtins G.T.nolimit hg hobj hints (Nat.le_trans hlen hn2) hr hF hb (fun H hO hS => hsp w H a ns hlen hO hS) fun H e s' => hCX w H s₁ e s'
end L2

/- THE LAST THEOREM (shape; LID, My.* are yours):
   My.Adr: a structure of the addresses that your layer names (classes, functions); My.Txt K t: a structure (Prop) of the equations over K;
   My.txt_mk : {K} {implicit addresses ..} (e1 : nsIn K mainGlobals "law" = some (some (.ref f))) (e2 : K.lookup f = some ⟨oc, od, .func (fnOf "law" "law" params body scope dV kV doc pm an cdv ct), sl⟩) (e3 : codeIn K cdv "law" = true) .. : ∃ t, My.Txt K t

set_option maxRecDepth 100000 in
set_option maxHeartbeats 0 in
theorem PySem.Challenge.cw_LID_holds : PySem.Challenge.rw_LID.Holds := by
  w_on; o_law; k_head; (case hw => w_witness2)
  k_fill
  refine L2.walk_of (l := PySem.Challenge.rw_LID) (n := 63) (k := 40) (x := "script") (CX := fun w => ..) (sp := fun _ => My.sp_law) rfl (by decide) rfl ⟨rfl, by decide, by decide⟩ (fun w h Y => PySem.W.kIn_of Y) ?F ?S ?C
  case F =>
    intro w mg fa h KX G hmg
    have T : ∃ t, My.Txt (L2.KOf KX) t := by
      dsimp only [L2.KOf]                          -- K must stand as «<heap const> w.params» for k_is
      refine' My.txt_mk ?e1 ?e2 ?e3 ..
      (case e1 => PySem.W.k_is)                    -- in the order: a name -> its address -> its object -> its parts
      (case e2 => PySem.W.k_is)
      ..
    obtain ⟨t, T⟩ := T
    have e0 := hmg.symm.trans (PySem.W.mg_of KX G T.law)
    cases e0                                       -- fa is the law's own address
    exact ⟨_, fun s u => .of_eq rfl, fun base kb nb => My.law_fn T kb nb⟩     -- if «.of_eq rfl» comes too early: refine' ⟨_, ?b, fun base kb nb => My.law_fn T kb nb⟩; exact fun s u => .of_eq rfl
  case S => exact fun w H a ns hl hO hS => ..
  case C => exact ..
(the tactic k_is has no namespace: write k_is) -/

/-! SHORT WORDS over the layer: a def of the text, its body, what a loop and a test want. -/
namespace L2
open PySem PySem.Spec PyProof.Rows

/-! ### the text by places -/
/-- the j-th statement of a class's body -/
def inClass (s : Stmt) (j : Nat) : Stmt := match s with
  | .ClassDef _ _ _ body _ _ _ _ _ _ _ => body.getD j (.Pass ⟨0, 0, 0, 0⟩)
  | _ => .Pass ⟨0, 0, 0, 0⟩
def defArgs (s : Stmt) : Arguments := match s with
  | .FunctionDef _ a _ _ _ _ _ _ _ _ => a
  | _ => { posonlyargs := [], args := [], vararg := none, kwonlyargs := [], kw_defaults := [], kwarg := none, defaults := [] }
def defBody (s : Stmt) : List Stmt := match s with
  | .FunctionDef _ _ b _ _ _ _ _ _ _ => b
  | _ => []
def defScope (s : Stmt) : Scope := match s with
  | .FunctionDef _ _ _ _ _ _ sc _ _ _ => sc
  | _ => { kind := .function, names := [], isGenerator := false, isCoroutine := false }

/-! ### no exception leaves a def -/
abbrev CX0 : CXT := fun _ _ _ _ _ _ => False
abbrev E0 : XK := fun _ _ _ => False
/-! ### a def (or method) of the text as it stands behind the top -/
structure Fun (K : PySem.W.Frag) (x qual : Str) (st : Stmt) (f : Addr) (fd : FuncData) : Prop where
  ex : ∃ (oc : Value) (od : Option Addr) (kV doc pm : Value) (an : Option Addr) (cdv ct : Value) (osl : Array (Option Value)),
    fd = PySem.W.fnOf x qual (defArgs st) (defBody st) (defScope st) .none kV doc pm an cdv ct ∧ K.lookup f = some ⟨oc, od, .func fd, osl⟩ ∧ PySem.W.codeIn K cdv qual = true
  kp : PySem.W.keepIn K (.ref f) = true
section
variable {P : Program} {w : World} {K : PySem.W.Frag} {mg : Str → Option Value} {base : Heap}
/-- THE RULE for a def: its body as a term of rules, and the reading of that term -/
theorem Fun.ok {x qual : Str} {st : Stmt} {f : Addr} {fd : FuncData} {N ps : List Str} {k : Nat} {sp : Sp} (F : Fun K x qual st f fd) (S : FnScope N ps (defScope st)) (len : ∀ vs H Q E, sp vs H Q E → vs.length = ps.length)
    (hbody : ∀ (cdv : Value) (A : Around) (outer : List Env) (s : Shared) (H : Hp) (vs : List V) (Q : VK) (E : XK), Room k (A.deeper (envOfC qual (defScope st) s.heap.objs.size f cdv)) → sp vs H Q E →
      ∃ t, PSs (cxOf CX0 P w K mg base N qual (defScope st) f cdv A outer s H E).nox (defBody st) t ∧ t { nx := fun _ H' => Q .non H', rt := Q } (start N vs) H) : FnOk P w K mg base CX0 (k + 1) f fd ps sp := by
  obtain ⟨oc, od, kV, doc, pm, an, cdv, ct, osl, rfl, lk, hcd⟩ := F.ex
  refine fn_of lk hcd S len fun A outer s H vs Q E hr hsp => ?_
  obtain ⟨t, h, q⟩ := hbody cdv A outer s H vs Q E hr hsp
  exact ⟨t, h.nox, q⟩
/-- how its arguments bind (no defaults): h is «fun _ _ _ _ _ _ us hl => match us, hl with | [_, _], _ => rfl», one _ a parameter -/
theorem Fun.binds {x qual : Str} {st : Stmt} {f : Addr} {fd : FuncData} {ps : List Str} (F : Fun K x qual st f fd)
    (h : ∀ (kV doc pm : Value) (an : Option Addr) (cdv ct : Value) (us : List Value), us.length = ps.length → bindArgs (PySem.W.fnOf x qual (defArgs st) (defBody st) (defScope st) .none kV doc pm an cdv ct) ⟨us, []⟩ = pure (ps.zip us)) : Binds K fd ps [] := by
  obtain ⟨oc, od, kV, doc, pm, an, cdv, ct, osl, rfl, lk, hcd⟩ := F.ex
  exact .all (h kV doc pm an cdv ct)
theorem fun_mk {x qual : Str} {st : Stmt} {f : Addr} {oc : Value} {od an : Option Addr} {osl : Array (Option Value)} {kV doc pm cdv ct : Value} (l : K.lookup f = some ⟨oc, od, .func (PySem.W.fnOf x qual (defArgs st) (defBody st) (defScope st) .none kV doc pm an cdv ct), osl⟩)
    (c : PySem.W.codeIn K cdv qual = true) (k : PySem.W.keepIn K (.ref f) = true) : Fun K x qual st f (PySem.W.fnOf x qual (defArgs st) (defBody st) (defScope st) .none kV doc pm an cdv ct) := ⟨⟨oc, od, kV, doc, pm, an, cdv, ct, osl, rfl, l, c⟩, k⟩
end
theorem hu_of {A : Around} {k : Nat} (hr : Room k A) : A.units + 1 < cLine := Nat.lt_of_le_of_lt (Nat.add_le_add_left (by decide : 1 ≤ 64) _) hr.units
theorem small1000 {n : Nat} (h : n ≤ 1000) : n < sizeLine := Nat.lt_of_le_of_lt h (by decide)

/-! ### expressions in short: the name that stands in the i-th slot -/
section
variable {X : Cx}
theorem pv (i : Nat) {x : Str} {pos : Pos} (hN : X.N[i]? = some x := by rfl) (hv : Vis X.env.scope x := by first | exact Or.inl rfl | exact Or.inr (Or.inl rfl) | exact Or.inr (Or.inr rfl)) (hd : (x == ("__debug__" : Str)) = false := by decide)
    (hcd : (x == ("__classdict__" : Str)) = false := by decide) : PE X (.Name x pos) (tVar i) := pe_var hN hv hd hcd
end

/-! ### tests -/
theorem iteF {A B : Prop} (h : B) : if false = true then A else B := by
  rw [if_neg Bool.false_ne_true]
  exact h
theorem iteT {A B : Prop} (h : A) : if true = true then A else B := by
  rw [if_pos rfl]
  exact h
theorem ite2 {c A B : Prop} [Decidable c] (h1 : c → A) (h2 : ¬ c → B) : if c then A else B := by
  by_cases h : c
  · rw [if_pos h]
    exact h1 h
  · rw [if_neg h]
    exact h2 h
theorem iteNS {c A B : Prop} [Decidable c] (hc : c) (h : B) : if (!decide c) = true then A else B := by
  rw [decide_eq_true hc]
  exact iteF h

/-! ### heaps -/
/-- all that was tracked is as it was -/
def Same (H H' : Hp) : Prop := ∀ b o, H b = some o → H' b = some o
theorem Same.refl (H : Hp) : Same H H := fun _ _ h => h
theorem Same.trans {H H1 H2 : Hp} (a : Same H H1) (b : Same H1 H2) : Same H H2 := fun c o h => b c o (a c o h)
theorem Same.free {H H' : Hp} (e : Same H H') {l : Addr} (h : H' l = Option.none) : H l = Option.none := by
  cases q : H l with
  | none => rfl
  | some o =>
    rw [e l o q] at h
    cases h
theorem Same.seq {K : PySem.W.Frag} {H H' : Hp} {a : Addr} {xs : List V} (e : Same H H') (h : SqL K H a xs) : SqL K H' a xs := by
  rcases h with (h | ⟨o, h⟩) | h
  · exact .inl (.inl (e _ _ h))
  · exact .inl (.inr ⟨o, e _ _ h⟩)
  · exact .inr h

/-! ### a dict's pairs: keys that differ -/
section
variable {κ : Type} [DecidableEq κ]
end
end L2
end
section
/-! THE MIRROR: a book of alarms in plain Lean. Names are of any kind. -/
namespace Mir
/-- an alarm: its name, its tick (or what it has left), its step -/
structure Al (ν : Type) where
  name : ν
  tick : Int
  step : Option Int
deriving DecidableEq

/-- things by number, in the order in which a dict keeps them -/
abbrev Dct (α : Type) := List (Int × α)
abbrev Tab (ν : Type) := Dct (Al ν)

section
variable {α : Type}
def get (t : Dct α) (n : Int) : Option (α) := (t.find? fun p => decide (p.1 = n)).map (·.2)
def has (t : Dct α) (n : Int) : Bool := (get t n).isSome
def put (t : Dct α) (n : Int) (a : α) : Dct α := if t.any (fun p => decide (p.1 = n)) then t.map (fun p => if p.1 = n then (p.1, a) else p) else t ++ [(n, a)]
def drop (t : Dct α) (n : Int) : Dct α := t.filter fun p => !decide (p.1 = n)
abbrev keys (t : Dct α) : List Int := t.map (·.1)

theorem get_nil (n : Int) : get ([] : Dct α) n = none := rfl
theorem get_cons (p : Int × α) (t : Dct α) (n : Int) : get (p :: t) n = if p.1 = n then some p.2 else get t n := by
  unfold get
  rw [List.find?_cons]
  by_cases h : p.1 = n <;> simp [h]
theorem get_none {t : Dct α} {n : Int} : get t n = none ↔ n ∉ keys t := by
  induction t with
  | nil => simp [get_nil]
  | cons p t ih =>
    rw [get_cons]
    by_cases e : p.1 = n
    · simp [e]
    · rw [if_neg e, ih]
      simp only [keys, List.map_cons, List.mem_cons, not_or]
      exact ⟨fun h => ⟨fun z => e z.symm, h⟩, fun h => h.2⟩
theorem any_iff {t : Dct α} {n : Int} : t.any (fun p => decide (p.1 = n)) = (get t n).isSome := by
  induction t with
  | nil => rfl
  | cons p t ih =>
    rw [List.any_cons, ih, get_cons]
    by_cases e : p.1 = n <;> simp [e]
theorem get_put (t : Dct α) (n m : Int) (a : α) : get (put t n a) m = if m = n then some a else get t m := by
  unfold put
  rw [any_iff]
  by_cases h : (get t n).isSome = true
  · rw [if_pos h]
    induction t with
    | nil => cases h
    | cons p t ih =>
      rw [List.map_cons, get_cons, get_cons]
      rw [get_cons] at h
      by_cases e : p.1 = n
      · rw [if_pos e]
        by_cases em : m = n
        · subst em
          simp [e]
        · have ne : ¬ p.1 = m := fun z => em (z ▸ e)
          have ne2 : ¬ n = m := fun z => em z.symm
          simp only [e, em, if_false, ne2]
          -- further ones are not m by the change
          have tail : ∀ l : Dct α, get (l.map fun p => if p.1 = n then (p.1, a) else p) m = get l m := by
            intro l
            induction l with
            | nil => rfl
            | cons q l il =>
              rw [List.map_cons, get_cons, get_cons, il]
              by_cases eq : q.1 = n
              · simp [eq, ne2]
              · simp [eq]
          simpa [e, ne2] using tail t
      · rw [if_neg e] at h
        simp only [e, if_false]
        by_cases em : p.1 = m
        · have ne : ¬ m = n := fun z => e (em.trans z)
          simp [em, ne]
        · rw [if_neg em, if_neg em]
          exact ih h
  · rw [if_neg h]
    have hn : get t n = none := by simpa using h
    induction t with
    | nil =>
      show get [(n, a)] m = _
      rw [get_cons]
      by_cases em : m = n
      · simp [em]
      · have : ¬ n = m := fun z => em z.symm
        simp [em, this]
    | cons p t ih =>
      rw [List.cons_append, get_cons, get_cons]
      rw [get_cons] at hn h
      by_cases e : p.1 = n
      · rw [if_pos e] at hn
        cases hn
      · rw [if_neg e] at hn h
        by_cases em : p.1 = m
        · have ne : ¬ m = n := fun z => e (em.trans z)
          simp [em, ne]
        · rw [if_neg em, if_neg em]
          exact ih h hn
theorem get_drop (t : Dct α) (n m : Int) : get (drop t n) m = if m = n then none else get t m := by
  unfold drop
  induction t with
  | nil => simp [get_nil]
  | cons p t ih =>
    rw [List.filter_cons, get_cons]
    by_cases e : p.1 = n
    · simp only [e, decide_true, Bool.not_true, Bool.false_eq_true, if_false]
      rw [ih]
      by_cases em : m = n
      · simp [em]
      · have : ¬ n = m := fun z => em z.symm
        simp [em, this]
    · simp only [e, decide_false, Bool.not_false, if_true]
      rw [get_cons, ih]
      by_cases em : p.1 = m
      · have : ¬ m = n := fun z => e (em.trans z)
        simp [em, this]
      · simp [em]
theorem keys_put_new {t : Dct α} {n : Int} (a : α) (h : get t n = none) : keys (put t n a) = keys t ++ [n] := by
  unfold put
  rw [any_iff, h]
  simp [keys]
theorem keys_put_old {t : Dct α} {n : Int} (a : α) (h : (get t n).isSome = true) : keys (put t n a) = keys t := by
  unfold put
  rw [any_iff, if_pos h]
  simp only [keys, List.map_map]
  apply List.map_congr_left
  intro p _
  by_cases e : p.1 = n <;> simp [e]
theorem nodup_put {t : Dct α} (nd : (keys t).Nodup) (n : Int) (a : α) : (keys (put t n a)).Nodup := by
  by_cases h : (get t n).isSome = true
  · rw [keys_put_old a h]
    exact nd
  · have hn : get t n = none := by simpa using h
    rw [keys_put_new a hn, List.nodup_append]
    refine ⟨nd, by simp, fun x hx y hy e => ?_⟩
    have ey : y = n := by simpa using hy
    subst ey
    exact get_none.mp hn (e ▸ hx)
theorem nodup_drop {t : Dct α} (nd : (keys t).Nodup) (n : Int) : (keys (drop t n)).Nodup := nd.sublist (List.Sublist.map _ List.filter_sublist)
end

/-! ### what rings: the alarms as a function of the number -/
abbrev Fn (ν : Type) := Int → Option (Al ν)
section
variable {ν : Type}
def fput (f : Fn ν) (n : Int) (o : Option (Al ν)) : Fn ν := fun m => if m = n then o else f m
theorem fput_same (f : Fn ν) (n : Int) (o : Option (Al ν)) : fput f n o n = o := by simp [fput]
theorem fput_ne (f : Fn ν) {n m : Int} (o : Option (Al ν)) (h : m ≠ n) : fput f n o m = f m := by simp [fput, h]
/-- what becomes of an alarm that rings -/
def after (a : Al ν) : Option (Al ν) := a.step.map fun k => { a with tick := a.tick + k }
/-- (t, n) comes not behind (u, m) -/
def Ahead (t n u m : Int) : Prop := t < u ∨ (t = u ∧ n ≤ m)
theorem Ahead.refl (t n : Int) : Ahead t n t n := .inr ⟨rfl, Int.le_refl _⟩
theorem Ahead.antisymm {t n u m : Int} (h : Ahead t n u m) (h' : Ahead u m t n) : t = u ∧ n = m := by
  unfold Ahead at h h'
  omega
theorem Ahead.trans {t n u m v k : Int} (h : Ahead t n u m) (h' : Ahead u m v k) : Ahead t n v k := by
  unfold Ahead at *
  omega
/-- the one that rings next, if it rings up to goal -/
structure Next (goal : Int) (f : Fn ν) (n : Int) (a : Al ν) : Prop where
  there : f n = some a
  due : a.tick ≤ goal
  first : ∀ m b, f m = some b → Ahead a.tick n b.tick m
theorem Next.unique {goal : Int} {f : Fn ν} {n m : Int} {a b : Al ν} (x : Next goal f n a) (y : Next goal f m b) : n = m ∧ a = b := by
  obtain ⟨_, e⟩ := (x.first m b y.there).antisymm (y.first n a x.there)
  subst e
  have z := x.there
  rw [y.there] at z
  cases z
  exact ⟨rfl, rfl⟩
/-- all that rings up to goal, in its order, and who waits then -/
inductive Runs (goal : Int) : Fn ν → List (Int × Int × ν) → Fn ν → Prop where
  | stop {f : Fn ν} : (∀ n a, f n = some a → goal < a.tick) → Runs goal f [] f
  | ring {f g : Fn ν} {n : Int} {a : Al ν} {l : List (Int × Int × ν)} : Next goal f n a → Runs goal (fput f n (after a)) l g → Runs goal f ((a.tick, n, a.name) :: l) g
theorem Runs.unique {goal : Int} {f : Fn ν} {l l' : List (Int × Int × ν)} {g g' : Fn ν} (x : Runs goal f l g) : Runs goal f l' g' → l = l' ∧ g = g' := by
  induction x generalizing l' g' with
  | stop h =>
    intro y
    cases y with
    | stop _ => exact ⟨rfl, rfl⟩
    | ring nx _ => exact absurd nx.due (Int.not_le.mpr (h _ _ nx.there))
  | ring nx r ih =>
    intro y
    cases y with
    | stop h => exact absurd nx.due (Int.not_le.mpr (h _ _ nx.there))
    | ring ny r' =>
      obtain ⟨rfl, rfl⟩ := nx.unique ny
      obtain ⟨rfl, rfl⟩ := ih r'
      exact ⟨rfl, rfl⟩
/-- one stretch behind another -/
theorem Runs.append {g1 g2 : Int} {f f1 f2 : Fn ν} {l1 l2 : List (Int × Int × ν)} (x : Runs g1 f l1 f1) (y : Runs g2 f1 l2 f2) (h : g1 ≤ g2) : Runs g2 f (l1 ++ l2) f2 := by
  induction x with
  | stop _ => exact y
  | ring nx _ ih => exact .ring ⟨nx.there, Int.le_trans nx.due h, nx.first⟩ (ih y)
/-- behind a stretch nobody waits for a tick of it -/
theorem Runs.end {goal : Int} {f g : Fn ν} {l : List (Int × Int × ν)} (x : Runs goal f l g) : ∀ n a, g n = some a → goal < a.tick := by
  induction x with
  | stop h => exact h
  | ring _ _ ih => exact ih
end

/-! ### how many times it still rings -/
section
variable {ν : Type}
def cnt (goal : Int) (a : Al ν) : Nat := if a.tick ≤ goal then (match a.step with | none => 1 | some k => ((goal - a.tick) / k + 1).toNat) else 0
def cntO (goal : Int) : Option (Al ν) → Nat
  | none => 0
  | some a => cnt goal a
theorem cnt_after {goal : Int} {a : Al ν} (h : a.tick ≤ goal) (good : ∀ k, a.step = some k → 0 < k) : cntO goal (after a) + 1 = cnt goal a := by
  unfold after
  cases hs : a.step with
  | none => simp [cntO, cnt, h, hs]
  | some k =>
    have hk := good k hs
    simp only [Option.map_some, cntO, cnt, h, hs, if_true]
    have q0 : 0 ≤ (goal - a.tick) / k := Int.ediv_nonneg (by omega) (by omega)
    by_cases hd : a.tick + k ≤ goal
    · rw [if_pos hd]
      have e : (goal - a.tick) / k = (goal - (a.tick + k)) / k + 1 := by
        have : goal - a.tick = (goal - (a.tick + k)) + 1 * k := by omega
        rw [this, Int.add_mul_ediv_right _ _ (by omega)]
      have q1 : 0 ≤ (goal - (a.tick + k)) / k := Int.ediv_nonneg (by omega) (by omega)
      rw [e]
      omega
    · rw [if_neg hd]
      have e : (goal - a.tick) / k = 0 := Int.ediv_eq_zero_of_lt (by omega) (by omega)
      rw [e]
      rfl
def mu (goal : Int) (t : Tab ν) : Nat := (t.map fun p => cnt goal p.2).sum
theorem fput_fput (f : Fn ν) (n : Int) (o o' : Option (Al ν)) : fput (fput f n o) n o' = fput f n o' := by
  funext m
  unfold fput
  by_cases h : m = n <;> simp [h]
/-- the steps are good -/
def Good (t : Tab ν) : Prop := ∀ n a, get t n = some a → ∀ k, a.step = some k → 0 < k
def ringT (t : Tab ν) (n : Int) (a : Al ν) : Tab ν := match after a with
  | none => drop t n
  | some b => put (drop t n) n b
end
end Mir
end
section
/-! OWN RULES A: errors of the program's own classes: raised, passed on by a def, caught by name. -/
namespace L2
open PySem PySem.Spec PyProof.Rows

theorem ObjOk.there {P : Program} {w : World} {H : Hp} {h : Heap} {a : Addr} {o : HO} (x : ObjOk P w H h a o) : ∃ u, h.get? a = some u := by
  cases o with
  | lst xs => obtain ⟨_, _, _, _, e⟩ := x; exact ⟨_, e⟩
  | tup xs => obtain ⟨_, _, _, _, e, _⟩ := x; exact ⟨_, e⟩
  | dK kvs => obtain ⟨_, _, _, _, o, _, _, e, _⟩ := x; exact ⟨_, e⟩
  | dT kvs => obtain ⟨_, _, _, _, o, _, _, e, _⟩ := x; exact ⟨_, e⟩
  | set S n => obtain ⟨o, _, _, _, e, _⟩ := x; exact ⟨_, e⟩
  | ins C dx fs => obtain ⟨_, _, _, e, _⟩ := x; exact ⟨_, e⟩
  | own y => obtain ⟨_, e⟩ := x; exact ⟨_, e⟩
  | xd fs => obtain ⟨_, ⟨_, _, _, e, _⟩, _⟩ := x; exact ⟨_, e⟩
  | rng lo hi => obtain ⟨_, _, _, e⟩ := x; exact ⟨_, e⟩
  | frz ob u => obtain ⟨e, _⟩ := x; exact ⟨_, e⟩
  | tbl ps => exact ⟨_, (show h.get? a = some _ from x)⟩
  | met f y => exact ⟨_, (show h.get? a = some _ from x)⟩
  | ext φ => obtain ⟨_, ⟨_, e⟩, _⟩ := x; exact ⟨_, e⟩
theorem HOk.off {P : Program} {w : World} {H : Hp} {h : Heap} {a : Addr} (x : HOk P w H h) (e : h.get? a = none) : H a = none := by
  cases q : H a with
  | none => rfl
  | some u =>
    obtain ⟨v, z⟩ := (x a u q).there
    rw [e] at z
    cases z

/-- the error at ea, its record of places at T, not in any frame's hand -/
def Thrown (h : Heap) (ea T : Addr) (cls a0 : Value) : Prop :=
  ∃ oe vs oT ts, h.get? ea = some oe ∧ (oe.cls = cls ∧ vs[0]? = some a0) ∧ oe.data = .fields vs ∧ vs[1]? = some (.ref T) ∧ T ≠ ea ∧ h.get? T = some oT ∧ oT.data = .fields ts ∧ ts[3]? = some .none
theorem Thrown.traced {h base : Heap} {ea T : Addr} {cls a0 : Value} (x : Thrown h ea T cls a0) (n : base.get? T = none) : h.TracedW base ea cls a0 :=
  let ⟨oe, vs, oT, ts, h1, h2, h3, h4, h5, h6⟩ := x; ⟨oe, vs, T, oT, ts, h1, h2, h3, h4, n, h5, h6⟩
theorem thrown_of {h base : Heap} {ea : Addr} {cls a0 : Value} (x : h.TracedW base ea cls a0) : ∃ T, base.get? T = none ∧ Thrown h ea T cls a0 :=
  let ⟨oe, vs, T, oT, ts, h1, h2, h3, h4, n, h5, h6⟩ := x; ⟨T, n, oe, vs, oT, ts, h1, h2, h3, h4, h5, h6⟩

/-- frames are no records -/
def FrOk (fs : List Addr) (h : Heap) : Prop := ∀ b ∈ fs, ∃ o, h.get? b = some o ∧ ∀ vs, o.data ≠ .fields vs
theorem FrOk.no {fs : List Addr} {h : Heap} {b : Addr} {o : Obj} {vs : Array Value} (F : FrOk fs h) (e : h.get? b = some o) (d : o.data = .fields vs) : b ∉ fs := fun hb => by
  obtain ⟨o', e', n⟩ := F b hb
  rw [e] at e'
  cases e'
  exact n vs d
theorem Thrown.offT {fs : List Addr} {h : Heap} {ea T : Addr} {cls a0 : Value} (x : Thrown h ea T cls a0) (F : FrOk fs h) : T ∉ fs := by
  obtain ⟨oe, vs, oT, ts, h1, h2, h3, h4, h5, h6, h7, _⟩ := x
  exact F.no h6 h7
theorem FrOk.up {fs : List Addr} {h h' : Heap} (F : FrOk fs h) (u : h.UpToSlots h') : FrOk fs h' := fun b hb => by
  obtain ⟨o, e, n⟩ := F b hb
  obtain ⟨sl, e'⟩ := u b o e n
  exact ⟨_, e', n⟩
theorem FrOk.keeps {fs : List Addr} {h h' : Heap} (F : FrOk fs h) (k : ∀ b o, h.get? b = some o → h'.get? b = some o) : FrOk fs h' := fun b hb => by
  obtain ⟨o, e, n⟩ := F b hb
  exact ⟨o, k b o e, n⟩
theorem Inv.frOk {X : Cx} {pins : List (Addr × Obj)} {σ : St} {H : Hp} {s : Shared} (I : Inv X pins σ H s) : FrOk (frs X.stack) s.heap := fun b hb => (I.stack.mem hb).2

/-- from h an error has come: what stands at h' -/
structure Flung (P : Program) (w : World) (fs : List Addr) (H H' : Hp) (h h' : Heap) (ea T : Addr) (cls a0 : Value) : Prop where
  un : Un fs [] H H' h h'
  hok : HOk P w H' h'
  ne : h.get? ea = none
  nT : h.get? T = none
  fe : H' ea = none
  fT : H' T = none
  thr : Thrown h' ea T cls a0

section
variable {X : Cx} {pins : List (Addr × Obj)} {σ : St} {H H' : Hp} {s s' : Shared} {h h1 h2 : Heap} {ea T : Addr} {cls a0 : Value} {vs : List Value} {fs : List Addr} {P : Program} {w : World}

theorem flung_made (I : Inv X pins σ H s) (hx : Heap.MadeExcOf s.heap h1 ea cls vs) (st : (PySem.W.hideAll s.heap (frs X.stack)).StaysIn h2) (up : h1.UpToSlots h2)
    (tr : h2.TracedW (PySem.W.hideAll s.heap (frs X.stack)) ea cls a0) : ∃ T, Flung X.prog X.w (frs X.stack) H H s.heap h2 ea T cls a0 := by
  obtain ⟨T, nT, th⟩ := thrown_of tr
  have fr2 : FrOk (frs X.stack) h2 := (I.frOk.keeps hx.keeps).up up
  have keep : ∀ b o, s.heap.get? b = some o → b ∉ frs X.stack → h2.get? b = some o := fun b o e n => st b o (PySem.W.hideAll_get _ e n)
  have slot : ∀ b o, s.heap.get? b = some o → b ∈ frs X.stack → ∃ sl, h2.get? b = some { o with slots := sl } := fun b o e hb => by
    obtain ⟨o', e', n⟩ := I.frOk b hb
    rw [e] at e'
    cases e'
    exact up b o (hx.keeps b o e) n
  have nT' : s.heap.get? T = none := by
    cases q : s.heap.get? T with
    | none => rfl
    | some o =>
      rw [PySem.W.hideAll_get _ q (th.offT fr2)] at nT
      cases nT
  refine ⟨T, ⟨fun b o e _ hb _ => keep b o e hb, fun b o e _ hb _ => slot b o e hb, fun b o e n _ => n, fun b o e _ => ?_, fun b xs q => q, fun b o u q => q, fun b ps q => ⟨#[], by rw [q]; simp⟩⟩, fun a o e => ?_, hx.new, nT', I.hok.off hx.new, I.hok.off nT', th⟩
  · by_cases hb : b ∈ frs X.stack
    · obtain ⟨sl, q⟩ := slot b o e hb
      exact ⟨_, q⟩
    · exact ⟨o, keep b o e hb⟩
  · refine (I.hok a o e).stay (fun b u hb q => keep b u q fun m => ?_) (fun _ q => q) fun _ _ q => q
    have z := I.stkFree b m
    rcases hb with hb | hb
    · rw [hb, e] at z
      cases z
    · rw [hb] at z
      cases z

theorem flung_on (F : Flung P w fs H H' h h1 ea T cls a0) (fr : FrOk fs h1) (ff : ∀ b ∈ fs, H' b = none) (st : (PySem.W.hideAll h1 (ea :: T :: fs)).StaysIn h2) (up : h1.UpToSlots h2)
    (tr : h2.TracedW (PySem.W.hideAll h1 (ea :: T :: fs)) ea cls a0) : ∃ T', Flung P w fs H H' h h2 ea T' cls a0 := by
  obtain ⟨T', nT', th⟩ := thrown_of tr
  have fr2 : FrOk fs h2 := fr.up up
  have keep : ∀ b o, h1.get? b = some o → b ≠ ea → b ≠ T → b ∉ fs → h2.get? b = some o := fun b o e n1 n2 n3 => st b o (PySem.W.hideAll_get _ e fun m => by
    rcases List.mem_cons.mp m with z | m
    · exact n1 z
    · rcases List.mem_cons.mp m with z | m
      · exact n2 z
      · exact n3 m)
  have nE : ∀ b o, h.get? b = some o → b ≠ ea := fun b o e z => by rw [z, F.ne] at e; cases e
  have nTT : ∀ b o, h.get? b = some o → b ≠ T := fun b o e z => by rw [z, F.nT] at e; cases e
  have slot : ∀ b o, h1.get? b = some o → b ∈ fs → ∃ sl, h2.get? b = some { o with slots := sl } := fun b o e hb => by
    obtain ⟨o', e', n⟩ := fr b hb
    rw [e] at e'
    cases e'
    exact up b o e n
  have old : ∀ o, h1.get? T' = some o → T' = T := fun o e => by
    apply Classical.byContradiction
    intro n
    have ne : T' ≠ ea := by
      obtain ⟨_, _, _, _, _, _, _, _, h5, _⟩ := th
      exact h5
    rw [PySem.W.hideAll_get _ e (fun m => by
      rcases List.mem_cons.mp m with z | m
      · exact ne z
      · rcases List.mem_cons.mp m with z | m
        · exact n z
        · exact th.offT fr2 m)] at nT'
    cases nT'
  refine ⟨T', ⟨fun b o e n hb hx => keep b o (F.un.keep b o e n hb hx) (nE b o e) (nTT b o e) hb, fun b o e n hb hx => ?_, F.un.free, fun b o e hx => ?_, F.un.tups, F.un.frzs, F.un.tbls⟩, fun a o e => ?_, F.ne, ?_, F.fe, ?_, th⟩
  · obtain ⟨sl, e1⟩ := F.un.slot b o e n hb hx
    obtain ⟨sl', e2⟩ := slot b _ e1 hb
    exact ⟨sl', e2⟩
  · obtain ⟨o', e1⟩ := F.un.there b o e hx
    by_cases hb : b ∈ fs
    · obtain ⟨sl, q⟩ := slot b o' e1 hb
      exact ⟨_, q⟩
    · exact ⟨o', keep b o' e1 (nE b o e) (nTT b o e) hb⟩
  · have off : ∀ b, H' b ≠ none → b ≠ ea ∧ b ≠ T ∧ b ∉ fs := fun b n => ⟨fun z => n (by rw [z]; exact F.fe), fun z => n (by rw [z]; exact F.fT), fun z => n (ff b z)⟩
    refine (F.hok a o e).stay (fun b u hb q => ?_) (fun _ q => q) fun _ _ q => q
    have nb : H' b ≠ none := by
      rcases hb with hb | hb
      · rw [hb, e]
        intro z
        cases z
      · rw [hb]
        intro z
        cases z
    exact keep b u q (off b nb).1 (off b nb).2.1 (off b nb).2.2
  · cases q : h.get? T' with
    | none => rfl
    | some o =>
      obtain ⟨o', e1⟩ := F.un.there T' o q (by simp)
      have z := old o' e1
      rw [z, F.nT] at q
      cases q
  · cases q : H' T' with
    | none => rfl
    | some u =>
      obtain ⟨o', e1⟩ := (F.hok T' u q).there
      have z := old o' e1
      rw [z, F.fT] at q
      cases q

/-- the state behind an error, for the frame in which the call stood -/
theorem Inv.flung (I : Inv X pins σ H s) (F : Flung X.prog X.w (frs X.stack) H H' s.heap s'.heap ea T cls a0) (ho : s'.os = s.os) (hb : AllBare s'.gens) : Inv X pins σ H' s' :=
  I.call' ho F.un F.hok hb fun b z => absurd z (by simp)

/-- what is wanted of an error that leaves a def -/
def CXe (P : Program) (w : World) : CXT := fun outer H s E e s' =>
  ∃ ea T cls a0 H', e = .ref ea ∧ s'.os = s.os ∧ AllBare s'.gens ∧ Flung P w (frs outer) H H' s.heap s'.heap ea T cls a0 ∧ E cls none H'
theorem CXe.no {outer : List Env} {e : Value} (h : CXe P w outer H s E0 e s') : False := by
  obtain ⟨_, _, _, _, _, _, _, _, _, q⟩ := h
  exact q

/-- frames as FunFrames over a heap that hides them -/
theorem Inv.hid (I : Inv X pins σ H s) {as : List Addr} (hs : ∀ b ∈ frs X.stack, b ∈ as) : s.heap.FunFrames (PySem.W.hideAll s.heap as) X.stack :=
  PySem.W.funFrames_hide I.stack fun env he a ha => hs a (List.mem_filterMap.mpr ⟨env, he, ha⟩)

theorem leave_flung {M : Model} {A : Around} {Q : Unit → Shared → Prop} {E' : Value → Shared → Prop} (I : Inv X pins σ H s) (hst : X.stack = X.env :: X.outer) (hfr : X.env.frame = some X.env.locals) (ho : s'.os = s.os) (hb : AllBare s'.gens)
    (F : Flung X.prog X.w (frs X.stack) H H' s.heap s'.heap ea T cls a0) (hA : A.frames = some X.stack)
    (k : ∀ h2 T', Flung X.prog X.w (frs X.stack) H H' s.heap h2 ea T' cls a0 → Q () { s' with heap := h2 }) : wpAny M A (leaving X.env (.ref ea)) Q E' s' := by
  have J := I.flung F ho hb
  refine wpAny_leaves_onW (base := PySem.W.hideAll s'.heap (ea :: T :: frs X.stack)) (L := X.env.locals) (by rw [hA, hst]) hfr ⟨fun b o e => PySem.W.of_hideAll _ e, PySem.W.hideAll_none _ (List.mem_cons_self), ?_, F.thr.traced (PySem.W.hideAll_none _ (by simp))⟩ fun h2 fl up => ?_
  · rw [← hst]
    exact J.hid fun b m => List.mem_cons_of_mem _ (List.mem_cons_of_mem _ m)
  · obtain ⟨a1, a2, a3, a4⟩ := fl
    obtain ⟨T', F'⟩ := flung_on F J.frOk J.stkFree a1 up a4
    exact k h2 T' F'
theorem leave_made {M : Model} {A : Around} {Q : Unit → Shared → Prop} {E' : Value → Shared → Prop} {tk : Nat} (I : Inv X pins σ H s) (hst : X.stack = X.env :: X.outer) (hfr : X.env.frame = some X.env.locals)
    (hx : Heap.MadeExcOf s.heap h1 ea cls vs) (hA : A.frames = some X.stack)
    (k : ∀ h2 T' a0, Flung X.prog X.w (frs X.stack) H H s.heap h2 ea T' cls a0 → Q () { s with heap := h2, toks := tk }) : wpAny M A (leaving X.env (.ref ea)) Q E' { s with heap := h1, toks := tk } := by
  refine wpAny_leaves_madeW (base := PySem.W.hideAll s.heap (frs X.stack)) (h := s.heap) (L := X.env.locals) (by rw [hA, hst]) hfr (fun b o e => PySem.W.of_hideAll _ e) ?_ hx fun h2 t fl tup nt up => ?_
  · rw [← hst]
    exact I.hid fun b m => m
  · obtain ⟨a1, a2, a3, a4⟩ := fl
    obtain ⟨T', F'⟩ := flung_made I hx a1 up a4
    exact k h2 T' _ F'

theorem cxe_of {E : XK} (I : Inv X pins σ H s) (hex : X.ex = []) (ho : s'.os = s.os) (hb : AllBare s'.gens) (F : Flung X.prog X.w (frs X.stack) H H' s.heap s'.heap ea T cls a0) (hE : E cls none H') :
    CXe X.prog X.w X.outer X.H₀ X.s₀ E (.ref ea) s' := by
  have J := I.flung F ho hb
  have new : ∀ b, s.heap.get? b = none → X.s₀.heap.get? b = none := fun b e => by
    cases q : X.s₀.heap.get? b with
    | none => rfl
    | some o =>
      obtain ⟨o', e'⟩ := I.base.there b o q (by rw [hex]; simp)
      rw [e] at e'
      cases e'
  have u := J.base
  rw [hex] at u
  exact ⟨ea, T, cls, a0, H', rfl, J.os, J.bare, ⟨u, J.hok, new ea F.ne, new T F.nT, F.fe, F.fT, F.thr⟩, hE⟩
end

/-! ### a def that may raise -/
section
variable {P : Program} {w : World} {K : PySem.W.Frag} {mg : Str → Option Value} {base : Heap} {N : List Str} {qual : Str} {scope : Scope} {f : Addr} {cd : Value} {A : Around} {outer : List Env} {s : Shared} {H : Hp} {E : XK}
/-- an error of a callee goes on -/
theorem passE : Passes (CXe P w) (cxOf (CXe P w) P w K mg base N qual scope f cd A outer s H E) E := by
  intro pins σ H1 s1 e s' I c
  obtain ⟨ea, T, cls, a0, H', rfl, ho, hb, F, hE⟩ := c
  exact leave_flung (E' := fun e' s'' => CXe P w outer H s E e' s'') I rfl rfl ho hb F I.ok.frames fun h2 T' F' => cxe_of (s' := { s' with heap := h2 }) I rfl ho hb F' hE
/-- no error can come -/
theorem passN {X : Cx} : Passes (CXe P w) X E0 := fun _ _ _ _ _ _ _ h => (CXe.no h).elim
end
/-- an error made here is what is wanted -/
def Rz (X : Cx) (E : XK) : Prop := ∀ (pins : List (Addr × Obj)) (σ : St) (H : Hp) (s : Shared) (h1 : Heap) (ea : Addr) (cls : Value) (vs : List Value) (tk : Nat), Inv X pins σ H s → Heap.MadeExcOf s.heap h1 ea cls vs → E cls none H → X.xe (.ref ea) { s with heap := h1, toks := tk }
theorem rz_fn {P : Program} {w : World} {K : PySem.W.Frag} {mg : Str → Option Value} {base : Heap} {N : List Str} {qual : Str} {scope : Scope} {f : Addr} {cd : Value} {A : Around} {outer : List Env} {s : Shared} {H : Hp} {E : XK} :
    Rz (cxOf (CXe P w) P w K mg base N qual scope f cd A outer s H E) E := by
  intro pins σ H1 s1 h1 ea cls vs tk I hx hE
  exact leave_made (E' := fun e' s'' => CXe P w outer H s E e' s'') I rfl rfl hx I.ok.frames fun h2 T' a0 F' => cxe_of (s' := { s1 with heap := h2, toks := tk }) I rfl rfl I.bare F' hE

/-- an own class under ValueError -/
def bmV : List Value := [.type "ValueError", .type "Exception", .type "BaseException", .type "object"]
theorem exc_obj {K : PySem.W.Frag} {h : Heap} {C : Addr} {bmB : List Value} {newId : String} (x : K.In h) (q : PySem.W.excIn K C bmB newId = true) :
    ∃ bm N nm qn bs hdct sn sub ab col dd k0 k1 k2 k3 k5 mN, h.get? C = some (excClassObj nm qn C N bs bm hdct sn sub ab col dd k0 k1 k2 k3 k5 newId) ∧ h.Ns N mN ∧ mN "__init__" = none ∧ OwnTail h bmB bm := by
  unfold PySem.W.excIn at q
  split at q
  · rename_i dd cd sl look
    split at q
    · rename_i C' tl y0 y1 y2 y3 nn y5 em es
      simp only [Bool.and_eq_true, beq_iff_eq, Bool.not_eq_true'] at q
      obtain ⟨⟨⟨⟨⟨rfl, rfl⟩, nodel⟩, tail⟩, okn⟩, noinit⟩ := q
      obtain ⟨nm, bs, mro, ns, qn, hdct, sn, sub, ab, col, del⟩ := cd
      dsimp only at em nodel okn noinit
      subst em nodel
      have slots : sl = #[y0, y1, y2, y3, some (.builtin nn), y5] := by
        obtain ⟨l⟩ := sl
        simp only at es
        rw [es]
      subst slots
      exact ⟨tl, ns, nm, qn, bs, hdct, sn, sub, ab, col, dd, y0, y1, y2, y3, y5, _, x _ _ look, .of_isNs (PySem.W.isNs_of_in x okn), PySem.W.nsMap_none_of_in x okn noinit, PySem.W.tail_of_in x tail⟩
    · cases q
  · cases q

/-- raise C(e, ..) -/
def tRaise (E : XK) (C : Addr) (t : TA) : TS := fun _ σ H => t σ H fun vs H1 => vs.length ≤ sizeLine ∧ E (.ref C) none H1
theorem ps_raise {X : Cx} {E : XK} {x : Str} {C : Addr} {np cpos pos : Pos} {e : Expr} {es : List Expr} {t : TA} (hz : Rz X E) (hc : X.calm = true) (hg : Gl X x) (hm : X.mg x = some (.ref C)) (hq : PySem.W.excIn X.K C bmV "ValueError.__new__" = true)
    (ha : PA X (e :: es) t) (hdb : (x == ("__debug__" : Str)) = false := by decide) (he : starEach (e :: es) X.env = (false, eval e X.env) :: starEach es X.env := by rfl) (hpl : (backTo cpos (starEach es X.env)).any (·.1) = false := by rfl) :
    PS X (.Raise (some (.Call (.Name x np) (e :: es) [] cpos)) none pos) (tRaise E C t) := by
  intro pins s σ H D I h
  have O := fun (hp : Heap) (k : X.K.In hp) => exc_obj k hq
  obtain ⟨tl, N, nm, q, bs, hdct, sn, sub, ab, col, dd, k0, k1, k2, k3, k5, mN, hC, hN, hni, T⟩ := O X.base I.ok.mod.kin
  refine wpAny_Raise_call_subT (C := C) (nm := nm) (q := q) (N := N) (bs := bs) (bm := tl) (hdct := hdct) (sn := sn) (sub := sub) (ab := ab) (col := col) (dd := dd) (k0 := k0) (k1 := k1) (k2 := k2) (k3 := k3) (k5 := k5) (mN := mN)
    PySem.F.excBase_ValueError (T.hasType PySem.F.excBase_ValueError.hasBase) (I.ok.hd hc) (by rw [he]; show (false || (backTo cpos (starEach es X.env)).any (·.1)) = false; rw [hpl]; rfl) hni (ld_glob I hg hm ⟨rfl, ?_⟩ hdb)
  have ha' := ha cpos pins s σ H _ I h
  rw [he] at ha' ⊢
  refine Calls.evalArgs_plain (thn ha' fun us s1 ⟨vs, H1, I1, r, hl, hE⟩ => ⟨rfl, ?_, I1.bk _ _ hC, hN.keeps I1.bk, T.keeps I1.bk, fun h' ea hmade => ?_⟩)
  · show us.length ≤ sizeLine
    rw [← r.length]
    exact hl
  · exact hz pins σ H1 s1 h' ea _ _ s1.toks I1 hmade hE

/-! ### a def's body, with errors -/
section
variable {P : Program} {w : World} {K : PySem.W.Frag} {mg : Str → Option Value} {base : Heap}
theorem Fun.okE {x qual : Str} {st : Stmt} {f : Addr} {fd : FuncData} {N ps : List Str} {k : Nat} {sp : Sp} (F : Fun K x qual st f fd) (S : FnScope N ps (defScope st)) (len : ∀ vs H Q E, sp vs H Q E → vs.length = ps.length)
    (hbody : ∀ (cdv : Value) (A : Around) (outer : List Env) (s : Shared) (H : Hp) (vs : List V) (Q : VK) (E : XK), Room k (A.deeper (envOfC qual (defScope st) s.heap.objs.size f cdv)) → sp vs H Q E →
      ∃ t, PSs (cxOf (CXe P w) P w K mg base N qual (defScope st) f cdv A outer s H E) (defBody st) t ∧ t { nx := fun _ H' => Q .non H', rt := Q } (start N vs) H) : FnOk P w K mg base (CXe P w) (k + 1) f fd ps sp := by
  obtain ⟨oc, od, kV, doc, pm, an, cdv, ct, osl, rfl, lk, hcd⟩ := F.ex
  refine fn_of lk hcd S len fun A outer s H vs Q E hr hsp => ?_
  exact hbody cdv A outer s H vs Q E hr hsp
/-- no error leaves -/
theorem Fun.okN {x qual : Str} {st : Stmt} {f : Addr} {fd : FuncData} {N ps : List Str} {k : Nat} {sp : Sp} (F : Fun K x qual st f fd) (S : FnScope N ps (defScope st)) (len : ∀ vs H Q E, sp vs H Q E → vs.length = ps.length)
    (hbody : ∀ (cdv : Value) (A : Around) (outer : List Env) (s : Shared) (H : Hp) (vs : List V) (Q : VK) (E : XK), Room k (A.deeper (envOfC qual (defScope st) s.heap.objs.size f cdv)) → sp vs H Q E →
      ∃ t, PSs (cxOf (CXe P w) P w K mg base N qual (defScope st) f cdv A outer s H E).nox (defBody st) t ∧ t { nx := fun _ H' => Q .non H', rt := Q } (start N vs) H) : FnOk P w K mg base (CXe P w) (k + 1) f fd ps sp :=
  F.okE S len fun cdv A outer s H vs Q E hr hsp => by
    obtain ⟨t, h, q⟩ := hbody cdv A outer s H vs Q E hr hsp
    exact ⟨t, h.nox, q⟩
end
theorem PS.nox {X : Cx} {st : Stmt} {t : TS} (h : PS X.nox st t) : PS X st t := fun pins s σ H D I hw =>
  wpAny_mono (h pins s σ H D (I.wish _) hw) (fun f s' q => q.unwish) fun _ _ z => z.elim
theorem PA.nox {X : Cx} {es : List Expr} {t : TA} (h : PA X.nox es t) : PA X es t := fun pos pins s σ H Q I hw =>
  wpAny_mono (h pos pins s σ H Q (I.wish _) hw) (fun us s' ⟨vs, H', I', q⟩ => ⟨vs, H', I'.unwish, q⟩) fun _ _ z => z.elim

/-! ### what may raise, inside try: values and statements with an end for errors -/
abbrev XS := St → Value → Hp → Prop
abbrev TEx := St → Hp → VK → XS → Prop
abbrev TSx := Ends → XS → St → Hp → Prop
def XP (X : Cx) (pins : List (Addr × Obj)) (E : XS) (e : Value) (s' : Shared) : Prop :=
  ∃ σ H s ea T cls a0 H', e = .ref ea ∧ Inv X pins σ H s ∧ s'.os = s.os ∧ AllBare s'.gens ∧ Flung X.prog X.w (frs X.stack) H H' s.heap s'.heap ea T cls a0 ∧ E σ cls H'
def PEx (X : Cx) (e : Expr) (t : TEx) : Prop :=
  ∀ (pins : List (Addr × Obj)) (s : Shared) (σ : St) (H : Hp) (Q : VK) (E : XS), Inv X pins σ H s → t σ H Q E → wpAny (model X.prog X.w) X.A (eval e X.env) (EP X pins σ Q) (XP X pins E) s
def PSx (X : Cx) (st : Stmt) (t : TSx) : Prop :=
  ∀ (pins : List (Addr × Obj)) (s : Shared) (σ : St) (H : Hp) (D : Ends) (E : XS), Inv X pins σ H s → t D E σ H → wpAny (model X.prog X.w) X.A (exec st X.env) (SP X pins D) (XP X pins E) s
def PSxs (X : Cx) (st : List Stmt) (t : TSx) : Prop :=
  ∀ (pins : List (Addr × Obj)) (s : Shared) (σ : St) (H : Hp) (D : Ends) (E : XS), Inv X pins σ H s → t D E σ H → wpAny (model X.prog X.w) X.A (execs st X.env) (SP X pins D) (XP X pins E) s

section
variable {X : Cx} {k : Nat} {f C : Addr} {fd : FuncData} {ps : List Str} {sp : Sp} {dvs : List V} {ds : List Value} {x m : Str} {p pos apos : Pos} {e o : Expr} {es : List Expr} {ta : TE} {t : TA}
theorem run_fnx {pins : List (Addr × Obj)} {σ : St} {H : Hp} {s : Shared} {Q : VK} {E : XS} {us : List Value} {vs : List V} (F : FnOk X.prog X.w X.K X.mg X.base (CXe X.prog X.w) k f fd ps sp) (hr : Room k X.A) (hb : Binds X.K fd ps ds) (hd : Vals dvs ds)
    (I : Inv X pins σ H s) (r : Vals vs us) (h : sp (vs ++ dvs) H Q fun cls _ H2 => E σ cls H2) : wpAny (model X.prog X.w) X.A (call (.ref f) us) (EP X pins σ Q) (XP X pins E) s := by
  have r2 : Vals (vs ++ dvs) (us ++ ds) := r.append hd
  have hl : (us ++ ds).length = ps.length := by rw [← r2.length]; exact F.len _ _ _ _ h
  refine wpAny_call (codeAny_mono (F.run X.A X.stack s H ⟨us, []⟩ (us ++ ds) (vs ++ dvs) Q _ hr I.env0 (hb s us I.kIn hl) r2 h) fun r s' hq => ?_)
  cases r with
  | error e =>
    obtain ⟨ea, T, cls, a0, H', rfl, ho, hg, F', hE⟩ := hq
    exact ⟨σ, H, s, ea, T, cls, a0, H', rfl, I, ho, hg, F', hE⟩
  | ok fl =>
    cases fl with
    | ret u => exact I.after hq
    | next => exact False.elim hq
    | brk => exact False.elim hq
    | cont => exact False.elim hq
def xCall (sp : Sp) (dvs : List V) (t : TA) : TEx := fun σ H Q E => t σ H fun vs H1 => sp (vs ++ dvs) H1 Q fun cls _ H2 => E σ cls H2
theorem px_call (F : FnOk X.prog X.w X.K X.mg X.base (CXe X.prog X.w) k f fd ps sp) (hr : Room k X.A) (hg : Gl X x) (hm : X.mg x = some (.ref f)) (hk : PySem.W.keepIn X.K (.ref f) = true) (hb : Binds X.K fd ps ds) (hd : Vals dvs ds)
    (ha : PA X.nox (e :: es) t) (hdb : (x == ("__debug__" : Str)) = false := by decide) (he : starEach (e :: es) X.env = (false, eval e X.env) :: starEach es X.env := by rfl) (hpl : (backTo pos (starEach es X.env)).any (·.1) = false := by rfl) :
    PEx X (.Call (.Name x p) (e :: es) [] pos) (xCall sp dvs t) := by
  intro pins s σ H Q E I h
  refine wpAny_Call_Name_kw (ld_glob I hg hm ?_ hdb)
  refine PySem.W.callWith_K (h₀ := X.base) I.ok.mod.kin hk (wpAny_mono (ha pos pins s σ H _ (I.wish _) h) (fun us s1 ⟨vs, H1, I1, r, q⟩ => ⟨I1.unwish.kIn, ?_⟩) fun _ _ z => z.elim) he hpl
  exact run_fnx F hr hb hd I1.unwish r q
/-- o.m(e, ..) -/
def xMeth (C : Addr) (m : Str) (sp : Sp) (dvs : List V) (ta : TE) (t : TA) : TEx := fun σ H Q E => ta σ H fun x H1 => ∃ a dx fs, x = .ref a ∧ H1 a = some (.ins C dx fs) ∧ fs.lookup m = none ∧
  t σ H1 fun vs H2 => sp (x :: (vs ++ dvs)) H2 Q fun cls _ H3 => E σ cls H3
/-- C(e, ..) -/
def xMake (C : Addr) (sp : Sp) (dvs : List V) (t : TA) : TEx := fun σ H Q E => t σ H fun vs H1 => ∀ x dx, H1 x = none → H1 dx = none → dx ≠ x →
  sp (.ref x :: (vs ++ dvs)) (upd (upd H1 dx (.own x)) x (.ins C dx [])) (fun v H2 => v = .non ∧ Q (.ref x) H2) fun cls _ H2 => E σ cls H2
theorem px_make (M : Mk X.K C f) (F : FnOk X.prog X.w X.K X.mg X.base (CXe X.prog X.w) k f fd ps sp) (hr : Room (k + 1) X.A) (hg : Gl X x) (hm : X.mg x = some (.ref C)) (hb : Binds X.K fd ps ds) (hd : Vals dvs ds)
    (ha : PA X.nox (e :: es) t) (hdb : (x == ("__debug__" : Str)) = false := by decide) (he : starEach (e :: es) X.env = (false, eval e X.env) :: starEach es X.env := by rfl) (hpl : (backTo pos (starEach es X.env)).any (·.1) = false := by rfl) :
    PEx X (.Call (.Name x p) (e :: es) [] pos) (xMake C sp dvs t) := by
  intro pins s σ H Q E I h
  refine wpAny_Call_Name_kw (ld_glob I hg hm ?_ hdb)
  refine PySem.W.callWith_K (h₀ := X.base) I.ok.mod.kin M.kp (wpAny_mono (ha pos pins s σ H _ (I.wish _) h) (fun us s1 ⟨vs, H1, I1', r, q⟩ => ⟨I1'.unwish.kIn, ?_⟩) fun _ _ z => z.elim) he hpl
  have I1 := I1'.unwish
  have hq := q (s1.heap.objs.size + 1) s1.heap.objs.size (I1.hok.fresh (Nat.le_succ _)) (I1.hok.fresh (Nat.le_refl _)) (Nat.ne_of_lt (Nat.lt_succ_self _))
  have I2 := Inv.made (C := C) I1
  have r2 : Vals (V.ref (s1.heap.objs.size + 1) :: (vs ++ dvs)) (Value.ref (s1.heap.objs.size + 1) :: (us ++ ds)) := .cons rfl (r.append hd)
  have hl : (Value.ref (s1.heap.objs.size + 1) :: us ++ ds).length = ps.length := by
    have e' := r2.length
    rw [F.len _ _ _ _ hq] at e'
    exact e'.symm
  refine wpAny_call (make_map (f := f) I1.kIn M.makes M.init (beq_iff_eq.mp M.fn) (codeAny_mono (F.run _ X.stack _ _ ⟨Value.ref (s1.heap.objs.size + 1) :: us, []⟩ (Value.ref (s1.heap.objs.size + 1) :: (us ++ ds)) _ _ _ (hr.make C us [])
    (I2.env0.make C us []) (hb _ (Value.ref (s1.heap.objs.size + 1) :: us) I2.kIn hl) r2 hq) fun r s' hq' => ?_))
  cases r with
  | error e' =>
    obtain ⟨ea, T, cls, a0, H', rfl, ho, hg', F', hE⟩ := hq'
    exact ⟨σ, _, _, ea, T, cls, a0, H', rfl, I2, ho, hg', F', hE⟩
  | ok fl =>
    cases fl with
    | ret u =>
      obtain ⟨v, H', I3, rv, ev, q3⟩ := I2.after hq'
      subst ev
      exact ⟨rv, ⟨V.ref (s1.heap.objs.size + 1), H', I3, rfl, q3⟩⟩
    | next => exact False.elim hq'
    | brk => exact False.elim hq'
    | cont => exact False.elim hq'
end

section
variable {X : Cx} {pos : Pos}
theorem psxs_one {st : Stmt} {t : TSx} (h1 : PSx X st t) : PSxs X [st] t := by
  intro pins s σ H D E I h
  refine wpAny_execs_cons (wpAny_mono (h1 pins s σ H D E I h) (fun fl s1 q => ?_) fun _ _ z => z)
  cases fl with
  | next => obtain ⟨σ1, H1, I1, q1⟩ := q; exact wpAny_execs_nil ⟨σ1, H1, I1, q1⟩
  | brk => exact q
  | cont => exact q
  | ret v => exact q
/-- name = what may raise -/
theorem psx_set {i : Nat} {x : Str} {e : Expr} {te : TEx} {pos' : Pos} (hN : X.N.Nodup) (hi : X.N[i]? = some x) (hx : Loc X.env.scope x) (he : PEx X e te) (hs : swapsWith e (some (.Name x pos')) pos.line X.env = pure false := by rfl) (hf : X.fn x = true ∨ X.env.scope.names.lookup x = some .local := by first | exact .inl rfl | exact .inr rfl | assumption) :
    PSx X (.Assign [.Name x pos'] e pos) (fun D E σ H => te σ H (fun v H1 => D.nx (σ.set i (some v)) H1) E) := by
  intro pins s σ H D E I h
  refine wpAny_Assign_Name (wpAny_mono (he pins s σ H _ E I h) (fun v s1 ⟨y, H1, I1, r1, q1⟩ => ?_) fun _ _ z => z) hs
  exact store_ok I1 hN hi hx r1 (fun s2 I2 => ⟨_, H1, I2, q1⟩) hf
end
end L2
end
section
/-! OWN RULES B: try .. except C as n: suite. -/
namespace L2
open PySem PySem.Spec PyProof.Rows

/-- an error that was caught, as a thing -/
def excO (ea : Addr) (cls : Value) : HO := .ext fun h => ∃ o vs, h.get? ea = some o ∧ o.cls = cls ∧ o.data = .fields vs
theorem excO_ok {P : Program} {w : World} {H : Hp} {h : Heap} {ea T : Addr} {cls a0 : Value} (x : Thrown h ea T cls a0) : ObjOk P w H h ea (excO ea cls) := by
  obtain ⟨oe, vs, oT, ts, h1, h2, h3, _⟩ := x
  refine ⟨⟨oe, vs, h1, h2.1, h3⟩, ⟨oe, h1⟩, fun g1 g2 p k => ?_⟩
  obtain ⟨o, us, e, c, d⟩ := p
  exact ⟨o, us, k o e, c, d⟩

/-- within an except suite -/
abbrev Cx.marked (X : Cx) (ea : Addr) : Cx := { X with A := X.A.mark (some (.ref ea)), calm := false, xe := fun _ _ => False }

section
variable {X : Cx} {pins : List (Addr × Obj)} {σ : St} {H H' : Hp} {s s' : Shared} {h h1 h2 : Heap} {ea T : Addr} {cls a0 : Value} {fs : List Addr} {P : Program} {w : World}
theorem Cx.Ok.marked (ok : X.Ok) : (X.marked ea).Ok :=
  ⟨ok.mod, ok.kind, ok.glob, ok.blt, ok.above, ok.inj, ok.has, ok.cab, fun z => (Bool.noConfusion z), ok.frames, ok.stk, ok.exf, ok.bs, ok.bsz, ok.noex, ok.exfs, ok.funs, ok.frf⟩
theorem Inv.marked (I : Inv X pins σ H s) : Inv (X.marked ea) pins σ H s := ⟨I.ok.marked, I.os, I.bare, I.base, I.loc, I.cell, I.free, I.freeC, I.pin, I.hok, I.len⟩
theorem Inv.unmarked (I : Inv (X.marked ea) pins σ H s) (ok : X.Ok) : Inv X pins σ H s := ⟨ok, I.os, I.bare, I.base, I.loc, I.cell, I.free, I.freeC, I.pin, I.hok, I.len⟩

/-- the error is tracked from now on -/
theorem Flung.track (F : Flung P w fs H H' h h1 ea T cls a0) : Un fs [] H (upd H' ea (excO ea cls)) h h1 ∧ HOk P w (upd H' ea (excO ea cls)) h1 := by
  have nb : ∀ b u, H' b = some u → b ≠ ea := fun b u q z => by rw [z, F.fe] at q; cases q
  refine ⟨⟨F.un.keep, F.un.slot, fun b o e n hx => ?_, F.un.there, fun b xs q => ?_, fun b o u q => ?_, fun b ps q => ?_⟩, fun a o e => ?_⟩
  · rw [upd_ne (fun z => by rw [z, F.ne] at e; cases e)]
    exact F.un.free b o e n hx
  · have q' := F.un.tups b xs q
    rw [upd_ne (nb b _ q')]
    exact q'
  · have q' := F.un.frzs b o u q
    rw [upd_ne (nb b _ q')]
    exact q'
  · obtain ⟨more, q'⟩ := F.un.tbls b ps q
    exact ⟨more, by rw [upd_ne (nb b _ q')]; exact q'⟩
  · by_cases ha : a = ea
    · subst ha
      rw [upd_same] at e
      cases e
      exact excO_ok F.thr
    · rw [upd_ne ha] at e
      exact (F.hok a o e).stay (fun b u _ q => q) (fun b q => by rw [upd_ne (nb b _ q)]; exact q) fun b xs q => by rw [upd_ne (nb b _ q)]; exact q

/-- a name goes -/
theorem Inv.unbound {M : Model} {A : Around} {E : Value → Shared → Prop} {j : Nat} {n : Str} {npos : Pos} {Q : Unit → Shared → Prop} (I : Inv X pins σ H s) (hN : X.N.Nodup) (hj : X.N[j]? = some n) (hl : X.env.scope.names.lookup n = some .local)
    (k : ∀ s', Inv X pins (σ.set j none) H s' → Q () s') : wpAny M A (do bindName X.env n .none; unbindBehindTheSuite X.env n npos) Q E s := by
  obtain ⟨m, hn, look⟩ := id I.loc
  obtain ⟨oL, _, _, hoL, _⟩ := id hn
  have hjσ : j < σ.length := by rw [I.len]; exact (List.getElem?_eq_some_iff.mp hj).1
  refine wpAny_nameGoes_keeps hl hn (by rw [I.ok.kind]; rfl) fun h' v hn' sb => k _ ?_
  have neL : ∀ b o, X.s₀.heap.get? b = some o → b ≠ X.env.locals := fun b o e => Nat.ne_of_lt (Nat.lt_of_lt_of_le (Heap.lt_size e) I.ok.above)
  refine ⟨I.ok, I.os, I.bare, ⟨fun b o e z hb hx => (sb.2 b (neL b o e)).trans (I.base.keep b o e z hb hx), fun b o e z hb hx => ?_, I.base.free, fun b o e hx => ?_, I.base.tups, I.base.frzs, I.base.tbls⟩, ⟨_, hn', fun i x u e1 e2 e3 => ?_⟩, fun y c e => ?_, I.free, I.freeC, fun p hp => ?_, fun a o e => ?_, by simpa using I.len⟩
  · obtain ⟨sl, q⟩ := I.base.slot b o e z hb hx
    exact ⟨sl, (sb.2 b (neL b o e)).trans q⟩
  · obtain ⟨o', q⟩ := I.base.there b o e hx
    exact ⟨o', (sb.2 b (neL b o e)).trans q⟩
  · by_cases hi : i = j
    · subst hi
      rw [List.getElem?_set_self hjσ] at e2
      cases e2
    · rw [List.getElem?_set_ne (Ne.symm hi)] at e2
      obtain ⟨u', r, q⟩ := look i x u e1 e2 e3
      refine ⟨u', r, ?_⟩
      rcases q with ⟨kk, e⟩ | ⟨kk, c, e, z⟩
      · refine .inl ⟨kk, ?_⟩
        have nx : x ≠ n := fun z => hi (nodup_ix hN e1 (z ▸ hj))
        simp [nx, e]
      · exact .inr ⟨kk, c, e, z.sameBut sb (I.cne x c e)⟩
  · obtain ⟨w', z⟩ := I.cell y c e
    exact ⟨w', z.sameBut sb (I.cne y c e)⟩
  · obtain ⟨e, z, ne, nf, d⟩ := I.pin p hp
    exact ⟨(sb.2 p.1 ne).trans e, z, ne, nf, d⟩
  · refine (I.hok a o e).stay (fun b u hb q => (sb.2 b fun z => ?_).trans q) (fun _ q => q) fun _ _ q => q
    have z' : H b = none := by rw [z]; exact I.free
    rcases hb with hb | hb
    · rw [hb, e] at z'
      cases z'
    · rw [hb] at z'
      cases z'

theorem excMatches_K {K : PySem.W.Frag} {M : Model} {A : Around} {E : Value → Shared → Prop} {C Tc : Addr} {oe : Obj} {b : Bool} {Q : Bool → Shared → Prop} (x : K.In s.heap) (he : s.heap.get? ea = some oe) (hc : oe.cls = .ref C)
    (h0 : PySem.W.instIn K (.ref Tc) (.type "tuple") = some false) (h1 : (PySem.W.clsIn K Tc).isSome = true) (h2 : PySem.W.subIn K (.ref Tc) (.type "BaseException") = some true) (h3 : PySem.W.subIn K (.ref C) (.ref Tc) = some b) (hq : Q b s) :
    wpAny M A (excMatches (.ref ea) (.ref Tc)) Q E s := by
  have L0 : PySem.W.Looks M s.heap (isInstance (.ref Tc) (.type "tuple")) false := PySem.W.looks_instIn x h0
  have L1 : PySem.W.Looks M s.heap (isType (.ref Tc)) true := by
    unfold PySem.W.clsIn at h1
    split at h1
    · rename_i c d cd sl look
      intro A' Q' E' s' k q
      unfold isType loadHead
      exact wpAny_bind (wpAny_loadPart (k _ _ (x _ _ look)) (wpAny_pure q))
    · cases h1
  have L2' : PySem.W.Looks M s.heap (isSubtype (.ref Tc) (.type "BaseException")) true := PySem.W.looks_subIn x h2
  have L3 : PySem.W.Looks M s.heap (isSubtype (.ref C) (.ref Tc)) b := PySem.W.looks_subIn x h3
  have L4 : PySem.W.Looks M s.heap (typeOf (.ref ea)) (.ref C) := hc ▸ (PySem.W.Looks.ld he).andThen .now
  unfold excMatches
  refine wpAny_bind (L0.here ?_)
  simp only [Bool.false_eq_true, if_false]
  refine wpAny_bind (wpAny_pure ?_)
  simp only [List.forIn_cons, List.forIn_nil]
  unfold isExcClass
  refine wpAny_bind (wpAny_bind (wpAny_bind (wpAny_bind (L1.here ?_))))
  simp only [if_true]
  refine L2'.here ?_
  simp only [Bool.not_true, Bool.false_eq_true, if_false]
  refine wpAny_pure (wpAny_pure ?_)
  refine wpAny_bind (L4.here ?_)
  refine wpAny_bind (wpAny_bind (wpAny_bind (L3.here ?_)))
  cases b with
  | true =>
    simp only [if_true]
    exact wpAny_pure (wpAny_pure (wpAny_pure hq))
  | false =>
    simp only [Bool.false_eq_true, if_false]
    exact wpAny_pure (wpAny_pure (wpAny_pure hq))

end

/-- what the text must have of the class that is caught -/
structure Ctch (K : PySem.W.Frag) (Tc : Addr) : Prop where
  notup : PySem.W.instIn K (.ref Tc) (.type "tuple") = some false
  cls : (PySem.W.clsIn K Tc).isSome = true
  exc : PySem.W.subIn K (.ref Tc) (.type "BaseException") = some true

/-- try: body, except Tc as n: suite -/
def tTry (K : PySem.W.Frag) (Tc : Addr) (j : Nat) (tb : TSx) (ts : TS) : TS := fun D σ H => tb D (fun σ' cls H' => ∃ C, cls = .ref C ∧ PySem.W.subIn K (.ref C) (.ref Tc) = some true ∧ ∀ ea, H' ea = none →
  ts { nx := fun σ'' H'' => D.nx (σ''.set j none) H'', rt := fun _ _ => False } (σ'.set j (some (.ref ea))) (upd H' ea (excO ea (.ref C)))) σ H
theorem ps_try {X : Cx} {c n : Str} {np hpos pos : Pos} {body : List Stmt} {b0 : Stmt} {suite : List Stmt} {j : Nat} {Tc : Addr} {tb : TSx} {ts : TS} (hst : X.stack = X.env :: X.outer) (hfr : X.env.frame = some X.env.locals) (hN : X.N.Nodup) (hj : X.N[j]? = some n)
    (hl : X.env.scope.names.lookup n = some .local) (hg : Gl X c) (hm : X.mg c = some (.ref Tc)) (hT : Ctch X.K Tc) (hb : PSxs X body tb) (hs : ∀ ea, PSs (X.marked ea) (b0 :: suite) ts) (hdb : (c == ("__debug__" : Str)) = false := by decide) :
    PS X (.Try body [.ExceptHandler (some (.Name c np)) (some n) (b0 :: suite) hpos] [] [] pos) (tTry X.K Tc j tb ts) := by
  intro pins s σ H D I h
  refine wpAny_Try_except (wpAny_mono (hb pins s σ H D _ I h) (fun f s1 q => ?_) fun e s1 q => ?_)
  · cases f with
    | next => exact wpAny_execs_nil q
    | brk => exact q
    | cont => exact q
    | ret v => exact q
  · obtain ⟨σ', H1, s0, ea, T, cls, a0, H', rfl, I0, ho, hg', F, C, rfl, hsub, hts⟩ := q
    have J := I0.flung F ho hg'
    have fl : Heap.FlyingW (PySem.W.hideAll s1.heap (ea :: T :: frs X.stack)) (X.env :: X.outer) ea (.ref C) a0 s1.heap := by
      refine ⟨fun b o e => PySem.W.of_hideAll _ e, PySem.W.hideAll_none _ List.mem_cons_self, ?_, F.thr.traced (PySem.W.hideAll_none _ (by simp))⟩
      rw [← hst]
      exact J.hid fun b m => List.mem_cons_of_mem _ (List.mem_cons_of_mem _ m)
    refine wpAny_looks_onW (L := X.env.locals) (by rw [I.ok.frames, hst]) hfr fl fun h2 held up => ?_
    refine wpAny_landsW held fun h3 fly up' => ?_
    obtain ⟨T3, F3⟩ := flung_on F J.frOk J.stkFree fly.1 (up.trans up') fly.2.2.2
    have J3 : Inv X pins σ' H' { s1 with heap := h3 } := I0.flung (s' := { s1 with heap := h3 }) F3 ho hg'
    refine wpAny_handleBy_cons (codeAny_handlers_test (ld_glob (X := X.marked ea) J3.marked hg hm ?_ hdb)) (by intro q; cases q)
    obtain ⟨oe, ov, oT, ts', g1, g2, g3, _⟩ := id F3.thr
    refine excMatches_K (s := { s1 with heap := h3 }) (K := X.K) J3.kIn g1 g2.1 hT.notup hT.cls hT.exc hsub ?_
    refine codeAny_handlers_suite_as (lands_againW fly fun h4 fly4 up4 => ?_)
    obtain ⟨T4, F4⟩ := flung_on F J.frOk J.stkFree fly4.1 ((up.trans up').trans up4) fly4.2.2.2
    have J4 : Inv X pins σ' (upd H' ea (excO ea (.ref C))) { s1 with heap := h4 } := I0.call' (s' := { s1 with heap := h4 }) ho F4.track.1 F4.track.2 hg' fun b z => absurd z (by simp)
    refine store_ok (X := X.marked ea) J4.marked hN hj (.inl hl) (v := .ref ea) rfl (fun s5 J5 => ?_) (.inr hl)
    refine wpAny_mono (hs ea pins s5 _ _ _ J5 (hts ea F4.fe)) (fun f s6 q6 => ?_) fun _ _ z => z.elim
    cases f with
    | next =>
      obtain ⟨σ6, H6, J6, q6⟩ := q6
      exact (J6.unmarked I.ok).unbound hN hj hl fun s7 J7 => ⟨_, H6, J7, q6⟩
    | brk => obtain ⟨_, _, _, q⟩ := q6; exact q.elim
    | cont => obtain ⟨_, _, _, q⟩ := q6; exact q.elim
    | ret v => obtain ⟨_, _, _, _, _, q⟩ := q6; exact q.elim
end L2
end
section
/-! OWN RULES C: list comprehensions (one for, a name as target, at most one if). -/
namespace L2
open PySem PySem.Spec PyProof.Rows

/-- an untracked object of ours is tracked from now on -/
theorem Inv.track {X : Cx} {pins : List (Addr × Obj)} {σ : St} {H : Hp} {s : Shared} {a : Addr} {o : HO} (I : Inv X pins σ H s) (n : H a = none) (h1 : a ∈ X.ex ∨ X.s₀.heap.objs.size ≤ a) (hL : a ≠ X.env.locals)
    (h2 : ∀ x c, X.env.cells.lookup x = some c → c ≠ a) (h3 : ∀ p ∈ X.pn ++ pins, p.1 ≠ a) (new : ObjOk X.prog X.w (upd H a o) s.heap a o) : Inv X pins σ (upd H a o) s := by
  have nb : ∀ b u, H b = some u → b ≠ a := fun b u q z => by rw [z, n] at q; cases q
  refine I.step (g' := s.gens) (d' := s.drawn) (t' := s.toks) (h' := s.heap) (ch := [a]) (fun b hb => ?_) (fun b o _ _ _ e _ => e) (fun b o _ _ _ e _ => ⟨o.slots, e⟩) (fun b o hc e z => ?_) (fun b o _ e => ⟨o, e⟩)
    (fun b xs q => ?_) (fun b o u q => ?_) (fun b ps q => ⟨#[], ?_⟩) (fun m hm => hm) (fun b u q => ?_) I.bare
  · have e : b = a := by simpa using hb
    subst e
    exact ⟨h1, hL, h2, h3⟩
  · rw [upd_ne (by simpa using hc)]
    exact z
  · rw [upd_ne (nb b _ q)]
    exact q
  · rw [upd_ne (nb b _ q)]
    exact q
  · rw [upd_ne (nb b _ q), q]
    simp
  · by_cases hb : b = a
    · subst hb
      rw [upd_same] at q
      cases q
      exact new
    · rw [upd_ne hb] at q
      exact (I.hok b u q).stay (fun _ _ _ z => z) (fun c z => by rw [upd_ne (nb c _ z)]; exact z) fun c xs z => by rw [upd_ne (nb c _ z)]; exact z

/-- the context of a comprehension's block -/
def compCx (X : Cx) (NB : List Str) (scope : Scope) (cl : List (Str × Addr)) (s0 : Shared) (H0 : Hp) (ex : List Addr) : Cx :=
  { X with N := NB, s₀ := s0, H₀ := H0, env := compEnvC scope cl s0.heap.objs.size X.env, outer := X.stack, ex := ex, fn := fun _ => false, pn := [], xe := fun _ _ => False }

structure CompOk (X : Cx) (scope : Scope) (cl : List (Str × Addr)) (NB : List Str) (fv : List (Option Nat)) : Prop where
  clos : closureFor scope X.env = pure cl
  kind : scope.kind = .function
  nocell : ∀ y ∈ scope.names, y.2 ≠ .cell
  names : ∀ y ∈ scope.names, y.2 = .local → scope.names.lookup y.1 = some .local
  nd : NB.Nodup
  len : fv.length = NB.length
  sub : ∀ x c, cl.lookup x = some c → X.env.cells.lookup x = some c
  has : ∀ x, ((relabel scope X.env).names.lookup x = some .cell ∨ (relabel scope X.env).names.lookup x = some .free) → ∃ c, cl.lookup x = some c
  free : ∀ (i : Nat) x j, NB[i]? = some x → fv[i]? = some (some j) → X.N[j]? = some x ∧ Vis X.env.scope x ∧ X.env.kindOf x ≠ some .local ∧ (∃ c, cl.lookup x = some c) ∧
    ((relabel scope X.env).names.lookup x = some .cell ∨ (relabel scope X.env).names.lookup x = some .free)
/-- the block's names, at its start -/
def blk (fv : List (Option Nat)) (σ : St) : St := fv.map fun o => o.bind fun j => (σ[j]?).join
theorem blk_at {fv : List (Option Nat)} {σ : St} {i : Nat} {v : V} (h : (blk fv σ)[i]? = some (some v)) : ∃ j, fv[i]? = some (some j) ∧ σ[j]? = some (some v) := by
  unfold blk at h
  rw [List.getElem?_map] at h
  cases e : fv[i]? with
  | none => rw [e] at h; cases h
  | some o =>
    rw [e] at h
    cases o with
    | none => cases h
    | some j =>
      have h' : (σ[j]?).join = some v := Option.some.inj h
      cases q : σ[j]? with
      | none => rw [q] at h'; cases h'
      | some z =>
        rw [q] at h'
        have h'' : z = some v := h'
        exact ⟨j, rfl, by rw [q, h'']⟩
theorem blk_none {fv : List (Option Nat)} {σ : St} {i : Nat} (h : fv[i]? = some none) : (blk fv σ)[i]? = some none := by
  unfold blk
  rw [List.getElem?_map, h]
  rfl
theorem blk_len {fv : List (Option Nat)} {σ : St} : (blk fv σ).length = fv.length := by
  unfold blk
  rw [List.length_map]

/-- the tests of a comprehension -/
def PIfs (X : Cx) (ifs : List Expr) (t : TT) : Prop :=
  ∀ (pins : List (Addr × Obj)) (s : Shared) (σ : St) (H : Hp) (Q : Bool → Hp → Prop), Inv X pins σ H s → t σ H Q →
    wpAny (model X.prog X.w) X.A (forIn ifs true fun c r => if r = true then do let ok ← isTrue c X.env (eval c X.env); pure (ForInStep.yield ok) else pure (ForInStep.yield r)) (TP X pins σ Q) X.xe s
theorem pifs_nil {X : Cx} : PIfs X [] (fun _ H Q => Q true H) := fun _ _ _ H _ I h => wpAny_tests_nil ⟨H, I, h⟩
section
variable {X : Cx} {pins : List (Addr × Obj)} {σ : St} {H : Hp} {s : Shared} {scope : Scope} {cl : List (Str × Addr)} {NB : List Str} {fv : List (Option Nat)} {ex : List Addr}

theorem comp_start {h1 : Heap} {tk : Nat} (I : Inv X pins σ H s) (O : CompOk X scope cl NB fv) (hex : ∀ b ∈ ex, b < s.heap.objs.size ∧ b ≠ X.env.locals ∧ b ∉ X.fs ∧ (∀ x c, X.env.cells.lookup x = some c → c ≠ b) ∧ H b = none ∧ ∀ o, X.base.get? b ≠ some o)
    (hns : h1.Ns s.heap.objs.size (fun x => (([] : List (Str × Value)).reverse).lookup x)) (old : ∀ b o, s.heap.get? b = some o → h1.get? b = some o) : Inv (compCx X NB scope cl s H ex) [] (blk fv σ) H { s with heap := h1, toks := tk } := by
  have hC : H s.heap.objs.size = none := I.hok.fresh (Nat.le_refl _)
  refine ⟨⟨I.ok.mod, ?_, I.ok.glob, I.ok.blt, Nat.le_refl _, fun x y c e1 e2 => I.ok.inj x y c (O.sub x c e1) (O.sub y c e2), fun x hx => O.has x hx, fun x c z => (Bool.noConfusion z), I.ok.hd, I.ok.frames, .inl rfl, fun b hb => ⟨Nat.ne_of_lt (hex b hb).1, fun x c e => (hex b hb).2.2.2.1 x c (O.sub x c e)⟩, I.bs, Nat.le_trans I.ok.bsz I.sz,
    fun b o e hb => (hex b hb).2.2.2.2.2 o e, fun b hb m => ?_, I.stack, I.stkFree⟩, rfl, I.bare, Un.kept old, ⟨_, hns, fun i x v e1 e2 e3 => ?_⟩, fun x c e => ?_, hC, fun x c e => I.freeC x c (O.sub x c e), fun p hp => absurd (show p ∈ ([] : List (Addr × Obj)) from hp) (by simp), I.hok.kept old, by rw [blk_len]; exact O.len⟩
  · exact O.kind
  · rcases List.mem_cons.mp (I.stkSub b m) with z | z
    · exact (hex b hb).2.1 z
    · exact (hex b hb).2.2.1 z
  · obtain ⟨j, f1, f2⟩ := blk_at e2
    obtain ⟨n1, n2, n3, ⟨c, n4⟩, n5⟩ := O.free i x j e1 f1
    obtain ⟨m, hn, look⟩ := I.loc
    obtain ⟨u, r, l⟩ := look j x v n1 f2 n2
    refine ⟨u, r, .inr ⟨n5, c, n4, ?_⟩⟩
    rcases l with ⟨z, _⟩ | ⟨_, c', e, z⟩
    · exact absurd z n3
    · rw [O.sub x c n4] at e
      cases e
      obtain ⟨oc, hoc, hd⟩ := z
      exact ⟨oc, old c oc hoc, hd⟩
  · obtain ⟨v, oc, hoc, hd⟩ := I.cell x c (O.sub x c e)
    exact ⟨v, oc, old c oc hoc, hd⟩

variable {x : Str} {px pos : Pos} {elt iter : Expr} {ifs : List Expr} {jx : Nat} {tc : TT} {te : TE} {J : It} {fp : List Addr} {it : Addr} {tn : Nat → Heap → Prop}

/-- an address that is none of the frame's own -/
structure Off (X : Cx) (pins : List (Addr × Obj)) (a : Addr) : Prop where
  new : X.s₀.heap.objs.size ≤ a
  loc : a ≠ X.env.locals
  cell : ∀ x c, X.env.cells.lookup x = some c → c ≠ a
  pin : ∀ p ∈ X.pn ++ pins, p.1 ≠ a
  fs : a ∉ X.fs
theorem Inv.offNew {a : Addr} (I : Inv X pins σ H s) (h : s.heap.objs.size ≤ a) : Off X pins a := by
  obtain ⟨_, f1, f2, f3, f4, f5⟩ := I.fpOk (H' := fun _ => none) h rfl
  exact ⟨Nat.le_trans I.sz h, f1, f4, f5, f2⟩
theorem Inv.touch {C : Addr} {h'' : Heap} {tk : Nat} (I : Inv X pins σ H s) (n : H C = none) (o : Off X pins C) (sb : Heap.SameBut C s.heap h'') : Inv X pins σ H { s with heap := h'', toks := tk } :=
  I.turned (it := C) (fun b ob hb e => (sb.2 b hb).trans e) n o.loc (.inr o.new) o.cell o.pin

theorem comp_core {W : Nat → Nat → List V → Hp → Prop} {Fin : List V → Hp → Prop} {RR : Value → Addr → Result → Shared → Prop} (I : Inv X pins σ H s) (T : Turn X.prog X.w X.K (.Name x px) J fp it tn) (st : tn 0 s.heap) (hf : ∀ b ∈ fp, FpOk X pins H b) (hc : X.calm = true)
    (O : CompOk X scope cl NB fv) (hx : scope.names.lookup x = some .local) (hjx : NB[jx]? = some x) (hfx : fv[jx]? = some none) (hC : ∀ s0 H0 ex, PIfs (compCx X NB scope cl s0 H0 ex) ifs tc) (hE : ∀ s0 H0 ex, PE (compCx X NB scope cl s0 H0 ex) elt te)
    (w0 : ∃ m, W 0 m [] H)
    (turn : ∀ i m ys H, W i m ys H → ys.length < sizeLine ∧ ((J.stop i H ∧ Fin ys H) ∨ (J.go i H ∧ ∀ v H', J.yld i H v H' → tc ((blk fv σ).set jx (some v)) H' fun b H2 => if b = true then te ((blk fv σ).set jx (some v)) H2 fun y H3 => ∃ m', m' < m ∧ W (i + 1) m' (ys ++ [y]) H3 else ∃ m', m' < m ∧ W (i + 1) m' ys H2)))
    (hRR : ∀ acc C s' H' ys m, H' acc = none → Inv X pins σ (upd H' acc (.lst ys)) s' → s'.heap.Ns C m → Off X pins C → upd H' acc (.lst ys) C = none → Fin ys H' → RR (.ref acc) C (.ok .next) s') {E : Value → Shared → Prop} :
    wpAny (model X.prog X.w) X.A (newList []) (fun acc s3 => wpAny (model X.prog X.w) X.A (newFunctionEnv scope X.env.globals cl [] X.env.qual none .none (some X.env)) (fun cenv s4 =>
      codeAny (model X.prog X.w) X.A (.compStart (.ListComp elt [⟨.Name x px, iter, ifs, 0⟩] scope pos) 0 (.ref it) acc { cenv with scope := relabel scope X.env }) (RR acc cenv.locals) s4) E s3) E s := by
  obtain ⟨m0, w0⟩ := w0
  refine wpAny_newList (wpAny_newFunctionEnv O.nocell (by intro y hy; simp at hy) (fun h1 hns hsb => ?_) O.kind)
  dsimp only at hns hsb ⊢
  -- the state with the empty list at acc
  generalize hs3 : ({ s with heap := s.heap.push { cls := .type "list", data := .seq ([] : List Value).toArray } } : Shared) = s3
  have e3 : s3.heap = s.heap.push { cls := .type "list", data := .seq ([] : List Value).toArray } := by rw [← hs3]
  have I3 : Inv X pins σ H s3 := by
    rw [← hs3]
    exact I.kept (t' := s.toks) fun b o e => Heap.get?_push_of_some _ e
  have sz3 : s3.heap.objs.size = s.heap.objs.size + 1 := by rw [e3, Heap.size_push]
  have nacc : H s.heap.objs.size = none := I.hok.fresh (Nat.le_refl _)
  have offA := I.offNew (a := s.heap.objs.size) (Nat.le_refl _)
  have tn3 : tn 0 s3.heap := T.keep 0 s.heap s3.heap st fun b _ o e => by rw [e3]; exact Heap.get?_push_of_some _ e
  have lt : ∀ b ∈ fp, b < s.heap.objs.size := fun b hb => by
    obtain ⟨o, e, _⟩ := T.obj 0 s.heap st b hb
    exact Heap.lt_size e
  have nofs : ∀ b, b ≠ X.env.locals → b ∉ X.fs → b ∉ frs X.stack := fun b h1 h2 m => by
    rcases List.mem_cons.mp (I.stkSub b m) with z | z
    · exact h1 z
    · exact h2 z
  have nobase : ∀ b, (b ∈ X.ex ∨ X.s₀.heap.objs.size ≤ b) → ∀ o, X.base.get? b ≠ some o := fun b hb o e => by
    rcases hb with z | z
    · exact I.ok.noex b o e z
    · exact absurd (Nat.lt_of_lt_of_le (Heap.lt_size (I.ok.bs b o e).1) z) (Nat.lt_irrefl _)
  -- the block's context
  have IY0 := comp_start (ex := s.heap.objs.size :: fp) (h1 := h1) (tk := s.toks + ([] : List (Str × Value)).length) I3 O (fun b hb => by
    rcases List.mem_cons.mp hb with z | hb
    · rw [z]
      exact ⟨by rw [sz3]; exact Nat.lt_succ_self _, offA.loc, offA.fs, offA.cell, nacc, nobase _ (.inr offA.new)⟩
    · obtain ⟨f0, f1, f2, f3, f4, f5⟩ := hf b hb
      exact ⟨by rw [sz3]; exact Nat.lt_succ_of_lt (lt b hb), f1, f2, f4, f0, nobase b f3⟩) (by rw [e3]; exact hns) (fun b o e => by
    rw [e3] at e
    exact hsb.extBut b o (Nat.ne_of_lt (Heap.lt_size e)) (Heap.get?_push_of_some _ e))
  generalize hY : compCx X NB scope cl s3 H (s.heap.objs.size :: fp) = Y at IY0
  have hCY : PIfs Y ifs tc := hY ▸ hC s3 H _
  have hEY : PE Y elt te := hY ▸ hE s3 H _
  have yP : Y.prog = X.prog := by rw [← hY]; rfl
  have yw : Y.w = X.w := by rw [← hY]; rfl
  have yK : Y.K = X.K := by rw [← hY]; rfl
  have yA : Y.A = X.A := by rw [← hY]; rfl
  have yc : Y.calm = true := by rw [← hY]; exact hc
  have yN : Y.N = NB := by rw [← hY]; rfl
  have yenv : Y.env = compEnvC scope cl s3.heap.objs.size X.env := by rw [← hY]; rfl
  have yfs : Y.fs = frs X.stack := by rw [← hY]; rfl
  have yex : Y.ex = s.heap.objs.size :: fp := by rw [← hY]; rfl
  have ypn : Y.pn = [] := by rw [← hY]; rfl
  have yxe : Y.xe = fun _ _ => False := by rw [← hY]; rfl
  have ys0 : Y.s₀ = s3 := by rw [← hY]; rfl
  have yH0 : Y.H₀ = H := by rw [← hY]; rfl
  have yloc : Y.env.locals = s3.heap.objs.size := by rw [yenv]; rfl
  have ycell : ∀ z c, Y.env.cells.lookup z = some c → X.env.cells.lookup z = some c := fun z c e => by
    rw [yenv] at e
    exact O.sub z c e
  have yx : Y.env.scope.names.lookup x = some .local := by
    rw [yenv]
    exact lookup_relabel_local hx
  have accA : ∀ z c, Y.env.cells.lookup z = some c → c ≠ s.heap.objs.size := fun z c e => offA.cell z c (ycell z c e)
  have accL : s.heap.objs.size ≠ Y.env.locals := by rw [yloc, sz3]; exact Nat.ne_of_lt (Nat.lt_succ_self _)
  have fpY : ∀ {H' : Hp} {o : Obj} {pl : List (Addr × Obj)}, (∀ p ∈ pl, p.1 = s.heap.objs.size) → (∀ b ∈ fp, H' b = none) → ∀ b ∈ fp, FpOk Y pl H' b := fun {H' o pl} hpl hn b hb => by
    obtain ⟨f0, f1, f2, f3, f4, f5⟩ := hf b hb
    refine ⟨hn b hb, ?_, ?_, .inl ?_, fun z c e => f4 z c (ycell z c e), fun p hp => ?_⟩
    · rw [yloc, sz3]
      exact Nat.ne_of_lt (Nat.lt_succ_of_lt (lt b hb))
    · rw [yfs]
      exact nofs b f1 f2
    · rw [yex]
      exact List.mem_cons_of_mem _ hb
    · rw [ypn] at hp
      rw [hpl p hp]
      exact Ne.symm (Nat.ne_of_lt (lt b hb))
  have T' : Turn Y.prog Y.w Y.K (.Name x px) J fp it tn := by rw [yP, yw, yK]; exact T
  -- what stands between two turns
  have loop : ∀ s4 : Shared, Inv Y [] (blk fv σ) H s4 → tn 0 s4.heap → s4.heap.get? s.heap.objs.size = some { cls := .type "list", data := .seq ([] : List Value).toArray } →
      codeAny (model X.prog X.w) X.A (.compLoop (.ListComp elt [⟨.Name x px, iter, ifs, 0⟩] scope pos) 0 (.ref it) (.ref s.heap.objs.size) (compEnvC scope cl s3.heap.objs.size X.env)) (RR (.ref s.heap.objs.size) s3.heap.objs.size) s4 := by
    intro s4 I4 t4 a4
    rw [← yenv, ← yP, ← yw, ← yA]
    refine codeAny_compLoop_tests (fun k s' => ∃ i ys H' its n, Inv Y [] (blk fv σ) H' s' ∧ tn i s'.heap ∧ (∀ b ∈ fp, H' b = none) ∧ H' s.heap.objs.size = none ∧ s'.heap.get? s.heap.objs.size = some { cls := .type "list", data := .seq (its : List Value).toArray n } ∧ Vals ys its ∧ W i k ys H') ?_ m0
      ⟨0, [], H, [], _, I4, t4, fun b hb => (hf b hb).1, nacc, a4, .nil, w0⟩
    rintro k s5 ⟨i, ys, H5, its, n, I5, t5, f5, n5, a5, v5, w5⟩
    obtain ⟨hlen, hturn⟩ := turn i k ys H5 w5
    have pinA : ∀ p ∈ [(s.heap.objs.size, ({ cls := .type "list", data := .seq (its : List Value).toArray n } : Obj))], s5.heap.get? p.1 = some p.2 ∧ H5 p.1 = none ∧ p.1 ≠ Y.env.locals ∧ p.1 ∉ Y.fs ∧ ∀ v, p.2.data ≠ .cell v := fun p hp => by
      have e := List.mem_singleton.mp hp
      subst e
      refine ⟨a5, n5, accL, ?_, fun v z => by cases z⟩
      rw [yfs]
      exact nofs _ offA.loc offA.fs
    have I5p := I5.pins_of pinA
    have fpo := fpY (H' := H5) (o := { cls := .type "list", data := .seq (its : List Value).toArray n }) (pl := [(s.heap.objs.size, ({ cls := .type "list", data := .seq (its : List Value).toArray n } : Obj))]) (fun p hp => by rw [List.mem_singleton.mp hp]) f5
    rcases hturn with ⟨stop, fin⟩ | ⟨go, step⟩
    · refine thn (T'.done Y rfl rfl rfl yc i _ s5 (blk fv σ) H5 _ I5p fpo t5 stop) fun r s6 ⟨hr, I6⟩ => ?_
      subst hr
      have a6 := (I6.pin (s.heap.objs.size, _) (by rw [ypn]; exact List.mem_singleton.mpr rfl)).1
      -- back in the frame around
      have u6 := I6.base
      rw [yfs, yex, yH0, ys0] at u6
      have hok6 := I6.hok
      rw [yP, yw] at hok6
      have os6 := I6.os
      rw [ys0] at os6
      have I7 : Inv X pins σ H5 s6 := I3.call' os6 u6 hok6 I6.bare fun b hb => by
        rcases List.mem_cons.mp hb with z | hb
        · rw [z]
          exact ⟨.inr offA.new, offA.loc, offA.cell, offA.pin⟩
        · obtain ⟨f0, f1, f2, f3, f4, f5⟩ := hf b hb
          exact ⟨f3, f1, f4, f5⟩
      have I8 : Inv X pins σ (upd H5 s.heap.objs.size (.lst ys)) s6 := I7.track n5 (.inr offA.new) offA.loc offA.cell offA.pin ⟨Nat.le_of_lt hlen, its, n, v5, a6⟩
      obtain ⟨mC, hnC, _⟩ := I6.loc
      rw [yloc] at hnC
      have offC := I3.offNew (a := s3.heap.objs.size) (Nat.le_refl _)
      refine hRR s.heap.objs.size s3.heap.objs.size s6 H5 ys mC n5 I8 hnC offC ?_ fin
      rw [upd_ne (by rw [sz3]; exact Nat.succ_ne_self _), ← yloc]
      exact I6.free
    · refine thn (T'.item Y rfl rfl rfl yc i _ s5 (blk fv σ) H5 _ I5p fpo t5 go) fun r s6 ⟨u, hr, h6⟩ => ?_
      subst hr
      show wpAny _ _ (letOwnedTupleGo (.Name x px) (.ref it) u >>= fun _ => assign (.Name x px) Y.env u) _ _ s6
      refine wpAny_bind (thn h6 fun _ s7 ⟨v, H7, I7, r7, y7, t7, f7⟩ => ?_)
      have fpo7 := fpY (H' := H7) (o := { cls := .type "list", data := .seq (its : List Value).toArray n }) (pl := [(s.heap.objs.size, ({ cls := .type "list", data := .seq (its : List Value).toArray n } : Obj))]) (fun p hp => by rw [List.mem_singleton.mp hp]) f7
      have I7p := I7.pinned fpo7 (T'.obj _ _ t7)
      refine wpAny_assign_Name (store_ok I7p (by rw [yN]; exact O.nd) (by rw [yN]; exact hjx) (.inl yx) r7 (fun s8 I8 => ?_) (.inr yx))
      have bad : ∀ (e : Value) (s' : Shared), Y.xe e s' → notedBy (model Y.prog Y.w) Y.A Y.env (fun e s' => RR (.ref s.heap.objs.size) s3.heap.objs.size (.error e) s') e s' := fun e s' z => by
        rw [yxe] at z
        exact z.elim
      -- behind a turn
      have after : ∀ {ys' : List V} {its' : List Value} {n' : Nat} {pl : List (Addr × Obj)} {H9 : Hp} {s9 : Shared}, Inv Y pl ((blk fv σ).set jx (some v)) H9 s9 → (∀ p ∈ pinsAt fp s7.heap, p ∈ pl) → H9 s.heap.objs.size = none →
          s9.heap.get? s.heap.objs.size = some { cls := .type "list", data := .seq (its' : List Value).toArray n' } → Vals ys' its' → (∃ m', m' < k ∧ W (i + 1) m' ys' H9) → ∃ m', m' < k ∧ ∃ i ys H' its n, Inv Y [] (blk fv σ) H' s9 ∧ tn i s9.heap ∧ (∀ b ∈ fp, H' b = none) ∧ H' s.heap.objs.size = none ∧ s9.heap.get? s.heap.objs.size = some { cls := .type "list", data := .seq (its : List Value).toArray n } ∧ Vals ys its ∧ W i m' ys H' := fun {ys' its' n' pl H9 s9} I9 hp9 n9 a9 v9 w9 => by
        obtain ⟨m', hm, w9⟩ := w9
        have pinned : ∀ b ∈ fp, ∀ o, s7.heap.get? b = some o → s9.heap.get? b = some o ∧ H9 b = none := fun b hb o e => by
          have z := I9.pin (b, o) (List.mem_append_right _ (hp9 _ (mem_pinsAt hb e)))
          exact ⟨z.1, z.2.1⟩
        refine ⟨m', hm, i + 1, ys', H9, its', n', (I9.pins_of (pins' := []) fun p hp => absurd hp (by simp)).weak (by simp) (fun a z e => ?_), T'.keep _ _ _ t7 fun b hb o e => (pinned b hb o e).1, fun b hb => ?_, n9, a9, v9, w9⟩
        · by_cases ha : jx = a
          · subst ha
            rw [blk_none hfx] at e
            cases e
          · rw [List.getElem?_set_ne ha]
            exact e
        · obtain ⟨o, e, _⟩ := T'.obj _ _ t7 b hb
          exact (pinned b hb o e).2
      have inA : ∀ {H9 : Hp} {σ9 : St} {s9 : Shared}, Inv Y ([(s.heap.objs.size, ({ cls := .type "list", data := .seq (its : List Value).toArray n } : Obj))] ++ pinsAt fp s7.heap) σ9 H9 s9 → s9.heap.get? s.heap.objs.size = some { cls := .type "list", data := .seq (its : List Value).toArray n } ∧ H9 s.heap.objs.size = none := fun I9 => by
        have z := I9.pin (s.heap.objs.size, _) (List.mem_append_right _ (List.mem_append_left _ (List.mem_singleton.mpr rfl)))
        exact ⟨z.1, z.2.1⟩
      refine wpAny_mono (hCY _ s8 _ H7 _ I8 (step v H7 y7)) (fun ok s9 ⟨H9, I9, q9⟩ => ?_) bad
      cases ok with
      | false =>
        exact after I9 (fun p hp => List.mem_append_right _ hp) (inA I9).2 (inA I9).1 v5 (by simpa using q9)
      | true =>
        rw [if_pos rfl] at q9
        refine wpAny_mono (hEY _ s9 _ H9 _ I9 q9) (fun u10 s10 ⟨y, H10, I10, r10, q10⟩ => ?_) bad
        refine append_at (inA I10).1 (fun h' sb ha => ?_) (by rw [List.size_toArray, ← v5.length]; exact Nat.le_of_lt hlen)
        have I11 := (I10.pins_of (pins' := pinsAt fp s7.heap) fun p hp => I10.pin p (List.mem_append_right _ (List.mem_append_right _ hp))).turned (it := s.heap.objs.size) (h' := h') (t' := s10.toks) (fun b o hb e => (sb.2 b hb).trans e) (inA I10).2 accL (.inl (by rw [yex]; exact List.mem_cons_self)) accA (fun p hp => by
          rw [ypn] at hp
          obtain ⟨hb, _⟩ := of_pinsAt hp
          exact Nat.ne_of_lt (lt _ hb))
        refine after (its' := its ++ [u10]) (n' := n + 1) I11 (fun p hp => hp) (inA I10).2 ?_ (v5.append (.cons r10 .nil)) q10
        rw [show ({ s10 with heap := h', toks := s10.toks } : Shared).heap = h' from rfl, ha]
        simp
  have hs4 : s.heap.push { cls := .type "list", data := .seq ([] : List Value).toArray } = s3.heap := e3.symm
  have acc1 : h1.get? s.heap.objs.size = some { cls := .type "list", data := .seq ([] : List Value).toArray } := hsb.extBut _ _ (by rw [Heap.size_push]; exact Nat.ne_of_lt (Nat.lt_succ_self _)) (Heap.get?_push_of_some _ (Heap.get?_push_size _ rfl))
  have tn1 : tn 0 h1 := T.keep 0 s.heap h1 st fun b _ o e => hsb.extBut b o (by rw [Heap.size_push]; exact Nat.ne_of_lt (Nat.lt_succ_of_lt (Heap.lt_size e))) (Heap.get?_push_of_some _ (Heap.get?_push_of_some _ e))
  have l4 := loop _ IY0 (by exact tn1) (by exact acc1)
  rw [← hs3] at l4
  exact codeAny_compStart_list l4 (T.self X.A 0 _ _ _ tn1 l4)
end

/-! ### the rules -/
def tComp (wi : TI) (fv : List (Option Nat)) (jx : Nat) (tc : TT) (te : TE) : TE := fun σ H Q => wi σ H fun J H1 => ∃ W : Nat → Nat → List V → Hp → Prop, (∃ m, W 0 m [] H1) ∧ ∀ i m ys H, W i m ys H → ys.length < sizeLine ∧
  ((J.stop i H ∧ ∀ acc, H acc = none → Q (.ref acc) (upd H acc (.lst ys))) ∨ (J.go i H ∧ ∀ v H', J.yld i H v H' → tc ((blk fv σ).set jx (some v)) H' fun b H2 => if b = true then te ((blk fv σ).set jx (some v)) H2 fun y H3 => ∃ m', m' < m ∧ W (i + 1) m' (ys ++ [y]) H3 else ∃ m', m' < m ∧ W (i + 1) m' ys H2))
section
variable {X : Cx} {scope : Scope} {cl : List (Str × Addr)} {NB : List Str} {fv : List (Option Nat)} {x y : Str} {px py pos spos : Pos} {elt iter : Expr} {ifs : List Expr} {jx iy : Nat} {wi : TI} {tc : TT} {te : TE}
theorem pe_comp (hc : X.calm = true) (O : CompOk X scope cl NB fv) (hi : PI X (.Name x px) iter wi) (hx : scope.names.lookup x = some .local) (hjx : NB[jx]? = some x) (hfx : fv[jx]? = some none) (hC : ∀ s0 H0 ex, PIfs (compCx X NB scope cl s0 H0 ex) ifs tc)
    (hE : ∀ s0 H0 ex, PE (compCx X NB scope cl s0 H0 ex) elt te) (hs : ∀ x, foldedSetIterable iter X.env x = pure x := by intro _; rfl) : PE X (.ListComp elt [⟨.Name x px, iter, ifs, 0⟩] scope pos) (tComp wi fv jx tc te) := by
  intro pins s σ H Q I h
  rw [eval_ListComp]
  refine wpAny_comprehension_free (use := none) rfl hs O.clos O.kind O.names (thn (hi pins s σ H _ I h) fun v s1 h1 => thn h1 fun itv s2 h2 => ?_)
  obtain ⟨it, fp, tn, J, H2, e, I2, T, st2, f2, W, w0, turn⟩ := h2
  subst e
  refine comp_core (RR := fun acc C => compPost (model X.prog X.w) X.A X.xe none (EP X pins σ Q) acc C) I2 T st2 f2 hc O hx hjx hfx hC hE w0 turn fun acc C s' H' ys m na I' hn oC nC fin => ?_
  exact ⟨m, hn, fun h'' sb => ⟨.ref acc, _, I'.touch (tk := s'.toks) nC oC sb, rfl, fin acc na⟩⟩
end
end L2
end
section
/-! OWN RULES D: walks over a dict's keys and values (the dict stands still meanwhile). -/
namespace L2
open PySem PySem.Spec PyProof.Rows

/-- it was no known thing at the entry: so it may be known for a while -/
def NF (X : Cx) (a : Addr) : Prop := ∀ o u, X.H₀ a ≠ some (.frz o u)
theorem kV_of {P : Program} {w : World} {k : Key} {u : Value} (h : (mixKind P w).is k u = true) : RelV (kV k) u := by
  rcases keyIs_shape (k := k) (v := u) h with ⟨i, t, rfl, rfl⟩ | ⟨x, t, rfl, rfl⟩
  · exact ⟨t, rfl⟩
  · exact ⟨t, rfl⟩
theorem KV.at {κ : Type} : ∀ {kvs : List (κ × V)} {vs : List (κ × Value)} {i : Nat} {k : κ} {v : V}, KV kvs vs → kvs[i]? = some (k, v) → ∃ u, vs[i]? = some (k, u) ∧ RelV v u
  | _, _, 0, _, _, .cons (b := q) r _, e => by
    simp at e
    subst e
    obtain ⟨q1, q2⟩ := q
    obtain ⟨r1, r2⟩ := r
    have r1' : _ = q1 := r1
    subst r1'
    exact ⟨q2, by simp, r2⟩
  | _, _, i + 1, k, v, .cons _ t, e => by
    obtain ⟨u, h1, h2⟩ := KV.at (i := i) (k := k) (v := v) t (by simpa using e)
    exact ⟨u, by simpa using h1, h2⟩
  | _, _, _, _, _, .nil, e => by simp at e

section
variable {X : Cx} {pins : List (Addr × Obj)} {σ : St} {H : Hp} {s : Shared} {a : Addr} {o : Obj} {kvs : List (Key × V)} {u : HO}
theorem Inv.thaw (I : Inv X pins σ H s) (e : H a = some (.frz o u)) (n : NF X a) (hu : ∀ xs, u ≠ .tup xs) (hu2 : ∀ y, u ≠ .own y) : Inv X pins σ (upd H a u) s := by
  have nt : ∀ b xs, H b = some (.tup xs) → b ≠ a := fun b xs q z => by rw [z, e] at q; cases q
  have nw : ∀ b y, H b = some (.own y) → b ≠ a := fun b y q z => by rw [z, e] at q; cases q
  have nn : ∀ b, H b = none → b ≠ a := fun b q z => by rw [z, e] at q; cases q
  have nb : ∀ b ps, H b = some (.tbl ps) → b ≠ a := fun b ps q z => by rw [z, e] at q; cases q
  refine ⟨I.ok, I.os, I.bare, ⟨I.base.keep, I.base.slot, fun b o1 e1 z hx => ?_, I.base.there, fun b xs q => ?_, fun b o1 u1 q => ?_, fun b ps q => ?_⟩, I.loc, I.cell, ?_, fun x c e1 => ?_, fun p hp => ?_, fun b o1 q => ?_, I.len⟩
  · have q := I.base.free b o1 e1 z hx
    rw [upd_ne (nn b q)]
    exact q
  · have q' := I.base.tups b xs q
    rw [upd_ne (nt b xs q')]
    exact q'
  · have q' := I.base.frzs b o1 u1 q
    by_cases hb : b = a
    · subst hb
      exact absurd q (n o1 u1)
    · rw [upd_ne hb]
      exact q'
  · obtain ⟨m, q'⟩ := I.base.tbls b ps q
    exact ⟨m, by rw [upd_ne (nb b _ q')]; exact q'⟩
  · rw [upd_ne (nn _ I.free)]
    exact I.free
  · rw [upd_ne (nn _ (I.freeC x c e1))]
    exact I.freeC x c e1
  · obtain ⟨z1, z2, z3⟩ := I.pin p hp
    exact ⟨z1, by rw [upd_ne (nn _ z2)]; exact z2, z3⟩
  · by_cases hb : b = a
    · subst hb
      rw [upd_same] at q
      cases q
      obtain ⟨_, q'⟩ := (show ObjOk X.prog X.w H s.heap b (.frz o u) from I.hok b _ e)
      exact q'.stay (fun _ _ _ z => z) (fun c z => by rw [upd_ne (nw c b z)]; exact z) fun c xs z => by rw [upd_ne (nt c xs z)]; exact z
    · rw [upd_ne hb] at q
      exact (I.hok b o1 q).stay (fun _ _ _ z => z) (fun c z => by rw [upd_ne (nw c b z)]; exact z) fun c xs z => by rw [upd_ne (nt c xs z)]; exact z
/-- a known dict, at its object -/
theorem Inv.known {ep : Nat} {es : Array DictEntry} (I : Inv X pins σ H s) (e : H a = some (.frz o (.dK kvs))) (hd : o.data = .dict es ep) : ∃ vs, KV kvs vs ∧ s.heap.DictAt (mixKind X.prog X.w) a vs ep := by
  obtain ⟨ho, _, _, vs, r, o', es', ep', ho', h1, h2, h3⟩ := (show ObjOk X.prog X.w H s.heap a (.frz o (.dK kvs)) from I.hok a _ e)
  rw [ho] at ho'
  cases ho'
  rw [hd] at h2
  cases h2
  exact ⟨vs, r, o, es, ho, h1, hd, h3⟩
end

/-- the keys, the values of the dict at a, known as o -/
def Itd (a : Addr) (o : Obj) (kvs : List (Key × V)) : It := ⟨fun i H => i < kvs.length ∧ H a = some (.frz o (.dK kvs)), fun i H x H' => H' = H ∧ ∃ k v, kvs[i]? = some (k, v) ∧ x = kV k, fun i H => kvs.length ≤ i ∧ H a = some (.frz o (.dK kvs))⟩
def Itv (a : Addr) (o : Obj) (kvs : List (Key × V)) : It := ⟨fun i H => i < kvs.length ∧ H a = some (.frz o (.dK kvs)), fun i H x H' => H' = H ∧ ∃ k, kvs[i]? = some (k, x), fun i H => kvs.length ≤ i ∧ H a = some (.frz o (.dK kvs))⟩
/-- the view d.values() -/
def valsO (v d : Addr) : HO := .ext fun h => h.IsValuesView v d
section
variable {X : Cx} {tg : Expr}
def iDict (X : Cx) (tl : TE) : TI := fun σ H R => tl σ H fun x H1 => ∃ a kvs, x = .ref a ∧ H1 a = some (.dK kvs) ∧ ∀ o, NF X a → R (Itd a o kvs) (upd H1 a (.frz o (.dK kvs)))
def iVals (X : Cx) (tl : TE) : TI := fun σ H R => tl σ H fun x H1 => ∃ v a kvs, x = .ref v ∧ H1 v = some (valsO v a) ∧ H1 a = some (.dK kvs) ∧ ∀ o, NF X a → R (Itv a o kvs) (upd H1 a (.frz o (.dK kvs)))
/-- d.values() -/
def rVals : V → List V → Hp → VK → Prop := fun x xs H Q => ∃ a kvs, x = .ref a ∧ xs = [] ∧ H a = some (.dK kvs) ∧ ∀ v, H v = none → Q (.ref v) (upd H v (valsO v a))
/-! ### for over a dict, a comprehension over a dict: behind it the dict is a plain one again -/
/-- the end of a walk over a dict -/
def Thaw (X : Cx) (N : Hp → Prop) : Hp → Prop := fun H => ∃ a o kvs, NF X a ∧ H a = some (.frz o (.dK kvs)) ∧ N (upd H a (.dK kvs))
def Ends.thaw (X : Cx) (D : Ends) : Ends := { nx := fun σ H => Thaw X (D.nx σ) H, rt := fun v H => Thaw X (D.rt v) H, bk := fun σ H => Thaw X (D.bk σ) H, ct := fun σ H => Thaw X (D.ct σ) H }
theorem SP.thaw {pins : List (Addr × Obj)} {D : Ends} {f : Flow} {s : Shared} (h : SP X pins (D.thaw X) f s) : SP X pins D f s := by
  cases f with
  | next =>
    obtain ⟨σ, H, I, a, o, kvs, n, e, q⟩ := h
    exact ⟨σ, _, I.thaw e n (fun _ z => nomatch z) (fun _ z => nomatch z), q⟩
  | brk =>
    obtain ⟨σ, H, I, a, o, kvs, n, e, q⟩ := h
    exact ⟨σ, _, I.thaw e n (fun _ z => nomatch z) (fun _ z => nomatch z), q⟩
  | cont =>
    obtain ⟨σ, H, I, a, o, kvs, n, e, q⟩ := h
    exact ⟨σ, _, I.thaw e n (fun _ z => nomatch z) (fun _ z => nomatch z), q⟩
  | ret v =>
    obtain ⟨x, σ, H, I, r, a, o, kvs, n, e, q⟩ := h
    exact ⟨x, σ, _, I.thaw e n (fun _ z => nomatch z) (fun _ z => nomatch z), r, q⟩
end
end L2
end
section
/-! OWN RULES E: equality of plain data, sorted, min, sum, all, isinstance, count, index. -/
namespace L2
open PySem PySem.Spec PyProof.Rows

/-! ### a value as plain data -/
mutual
inductive Den (K : PySem.W.Frag) (H : Hp) : V → PyData → Prop
  | non : Den K H .non .none
  | bl (b : Bool) : Den K H (.bl b) (.bool b)
  | int (i : Int) : Den K H (.int i) (.int i)
  | str (x : Str) : Den K H (.str x) (.str x)
  | tup {a : Addr} {xs : List V} {ds : List PyData} : SqT K H a xs → DenL K H xs ds → Den K H (.ref a) (.tuple ds)
  | lst {a : Addr} {xs : List V} {ds : List PyData} : SqL K H a xs → DenL K H xs ds → Den K H (.ref a) (.list ds)
inductive DenL (K : PySem.W.Frag) (H : Hp) : List V → List PyData → Prop
  | nil : DenL K H [] []
  | cons {x : V} {xs : List V} {d : PyData} {ds : List PyData} : Den K H x d → DenL K H xs ds → DenL K H (x :: xs) (d :: ds)
end
section
variable {X : Cx} {pins : List (Addr × Obj)} {σ : St} {H : Hp} {s : Shared}
mutual
theorem Den.reads (I : Inv X pins σ H s) : ∀ {x : V} {d : PyData} {u : Value}, Den X.K H x d → RelV x u → ∃ as, Reads s.heap u d as
  | _, _, _, .non, r => by cases r; exact ⟨_, .none⟩
  | _, _, _, .bl b, r => by cases r; exact ⟨_, .bool b⟩
  | _, _, _, .int i, r => by obtain ⟨t, rfl⟩ := r; exact ⟨_, .int i t⟩
  | _, _, _, .str x, r => by obtain ⟨t, rfl⟩ := r; exact ⟨_, .str x t⟩
  | _, _, _, .tup hq hl, r => by
    cases r
    obtain ⟨its, rv, ⟨o, ho, hc, n, hd⟩, hz⟩ := I.tuple hq
    obtain ⟨as, q⟩ := DenL.reads I hl rv
    exact ⟨_, .tuple ho hc hd (by simpa using q)⟩
  | _, _, _, .lst hq hl, r => by
    cases r
    obtain ⟨its, rv, ⟨o, n, ho, hc, _, hd⟩, hz⟩ := I.list hq
    obtain ⟨as, q⟩ := DenL.reads I hl rv
    exact ⟨_, .list ho hc hd (by simpa using q)⟩
theorem DenL.reads (I : Inv X pins σ H s) : ∀ {xs : List V} {ds : List PyData} {us : List Value}, DenL X.K H xs ds → Vals xs us → ∃ as, ReadsAll s.heap us ds as
  | _, _, _, .nil, r => by cases r; exact ⟨_, .nil⟩
  | _, _, _, .cons hd hl, r => by
    cases r with
    | cons r1 r2 =>
      obtain ⟨as, q⟩ := Den.reads I hd r1
      obtain ⟨bs, p⟩ := DenL.reads I hl r2
      exact ⟨_, .cons q p⟩
end
mutual
theorem Den.same {K : PySem.W.Frag} {H H' : Hp} (e : Same H H') : ∀ {x : V} {d : PyData}, Den K H x d → Den K H' x d
  | _, _, .non => .non
  | _, _, .bl b => .bl b
  | _, _, .int i => .int i
  | _, _, .str x => .str x
  | _, _, .tup hq hl => .tup (by
      rcases hq with (h | ⟨o, h⟩) | h
      · exact .inl (.inl (e _ _ h))
      · exact .inl (.inr ⟨o, e _ _ h⟩)
      · exact .inr h) (DenL.same e hl)
  | _, _, .lst hq hl => .lst (e.seq hq) (DenL.same e hl)
theorem DenL.same {K : PySem.W.Frag} {H H' : Hp} (e : Same H H') : ∀ {xs : List V} {ds : List PyData}, DenL K H xs ds → DenL K H' xs ds
  | _, _, .nil => .nil
  | _, _, .cons hd hl => .cons (Den.same e hd) (DenL.same e hl)
end
end
section
variable {X : Cx}
def rEqD (K : PySem.W.Frag) : R2 := fun x y H Q => ∃ d e, Den K H x d ∧ Den K H y e ∧ SeqAt.shaped d = true ∧ SeqAt.shaped e = true ∧ Q (.bl (PyData.eqv d e)) H
def rNeD (K : PySem.W.Frag) : R2 := fun x y H Q => ∃ d e, Den K H x d ∧ Den K H y e ∧ SeqAt.shaped d = true ∧ SeqAt.shaped e = true ∧ Q (.bl (!PyData.eqv d e)) H
theorem op_eqD (hu : X.A.units + 64 < cLine) : OpR X (compareOp .Eq) (rEqD X.K) := by
  intro pins s σ H x y v u Q I rx ry h
  obtain ⟨d, e, hd, he, sd, se, q⟩ := h
  obtain ⟨as, ra⟩ := hd.reads I rx
  obtain ⟨bs, rb⟩ := he.reads I ry
  exact eq_dataH ra rb sd se hu ⟨.bl _, H, I, rfl, q⟩
theorem op_neD (hu : X.A.units + 64 < cLine) : OpR X (compareOp .NotEq) (rNeD X.K) := by
  intro pins s σ H x y v u Q I rx ry h
  obtain ⟨d, e, hd, he, sd, se, q⟩ := h
  obtain ⟨as, ra⟩ := hd.reads I rx
  obtain ⟨bs, rb⟩ := he.reads I ry
  exact ne_dataH ra rb sd se hu ⟨.bl _, H, I, rfl, q⟩
end
/-! equal data are equal -/
mutual
theorem eqv_refl : ∀ d : PyData, d.canLay0 = true → PyData.eqv d d = true
  | .none, _ => by simp [PyData.eqv]
  | .bool b, _ => by simp [PyData.eqv]
  | .int i, _ => by simp [PyData.eqv]
  | .str x, _ => by simp [PyData.eqv]
  | .list ds, h => by
    rw [PyData.eqv]
    exact eqvAll_refl ds (by simpa [PyData.canLay0] using h)
  | .tuple ds, h => by
    rw [PyData.eqv]
    exact eqvAll_refl ds (by simpa [PyData.canLay0] using h)
  | .dict _, h => by simp [PyData.canLay0] at h
theorem eqvAll_refl : ∀ ds : List PyData, PyData.canLayAll0 ds = true → PyData.eqvAll ds ds = true
  | [], _ => by simp [PyData.eqvAll]
  | d :: ds, h => by
    have h' : d.canLay0 = true ∧ PyData.canLayAll0 ds = true := by simpa [PyData.canLayAll0] using h
    rw [PyData.eqvAll, eqv_refl d h'.1, eqvAll_refl ds h'.2]
    rfl
end
theorem eqv_self {d : PyData} (h : SeqAt.shaped d = true) : PyData.eqv d d = true := eqv_refl d (SeqAt.canLay_of_shaped h)

/-! ### isinstance -/
section
variable {X : Cx}
/-- a class as a value -/
def clsV : V → Option Value
  | .ref a => some (.ref a)
  | .ty n => some (.type n)
  | _ => none
theorem clsV_rel {c : V} {cv u : Value} (h : clsV c = some cv) (r : RelV c u) : u = cv := by
  cases c with
  | ref a => cases (Option.some.inj h); exact r
  | ty n => cases (Option.some.inj h); exact r
  | _ => cases h
/-- isinstance(x, c): one class -/
def rIsi (K : PySem.W.Frag) : List V → Hp → VK → Prop := fun xs H Q => ∃ x t c cv b, xs = [x, c] ∧ TyOf K H x t ∧ clsV c = some cv ∧ PySem.W.kitOne K t cv = some b ∧ Q (.bl b) H
theorem call_isi : CallR X (.builtin "isinstance") (rIsi X.K) := by
  intro pins s σ H xs us Q I r h
  obtain ⟨x, t, c, cv, b, rfl, ty, rc, e, q⟩ := h
  obtain ⟨u, u', rfl, ru, ru'⟩ := vals2 r
  cases clsV_rel rc ru'
  exact isinst_ok I ru ty e fun tk => ⟨.bl b, H, I.tok _, rfl, q⟩
end

/-! ### sorted of ints -/
section
variable {X : Cx}
def rSorted (K : PySem.W.Frag) : List V → Hp → VK → Prop := fun xs H Q => ∃ a ns, xs = [.ref a] ∧ SqL K H a (ns.map V.int) ∧ ns.length < 64 ∧
  ∀ ns' : List Int, ns'.Perm ns → ns'.Pairwise (· ≤ ·) → ∀ p, H p = none → Q (.ref p) (upd H p (.lst (ns'.map V.int)))
end
end L2
end
section
/-! OWN RULES F: min over a list (ints, pairs of ints), sum, all, count, index, // by any number. -/
namespace L2
open PySem PySem.Spec PyProof.Rows

/-! ### // by a number of any usual size -/
section
variable {X : Cx}
def CDivB (i j : Int) : Prop := 0 < j ∧ j < 2 ^ 200
theorem op_fdivB : OpR X (binaryOp .FloorDiv) (rI CDivB fun i j => .int (i / j)) := opI fun i j _ _ _ _ _ hc q => by
  have h0 : 0 ≤ j := Int.le_of_lt hc.1
  refine floordiv_int (by have := hc.1; omega) ?_ (.inl (PyProof.noPylong_of_log2 ?_))
  · rw [Int.fdiv_eq_ediv_of_nonneg _ h0]
    exact q
  · by_cases hz : j.natAbs = 0
    · rw [hz]
      decide
    · have h1 : j.natAbs < 2 ^ 200 := by
        have := hc.2
        omega
      exact Nat.lt_trans ((Nat.log2_lt hz).mpr h1) (by decide)
end

/-! ### min: the loop, with things of the heap compared -/
theorem getD_at {ns : List Int} {k : Nat} (h : k < ns.length) : ns.getD k 0 = ns[k] := by simp [List.getD, h]
theorem argBest_spec {β : Type} (f : Nat → β) (le : β → β → Prop) (bt : Nat → Nat → Bool) (refl : ∀ x, le x x) (tr : ∀ x y z, le x y → le y z → le x z) (h1 : ∀ i j, bt i j = true → le (f i) (f j)) (h2 : ∀ i j, bt i j = false → le (f j) (f i)) :
    ∀ k, argBest bt k ≤ k ∧ ∀ i, i ≤ k → le (f (argBest bt k)) (f i)
  | 0 => ⟨Nat.le_refl _, fun i hi => by
      have e : i = 0 := Nat.le_zero.mp hi
      subst e
      exact refl _⟩
  | k + 1 => by
    obtain ⟨a, b⟩ := argBest_spec f le bt refl tr h1 h2 k
    rw [argBest]
    cases e : bt (k + 1) (argBest bt k) with
    | true =>
      rw [if_pos rfl]
      refine ⟨Nat.le_refl _, fun i hi => ?_⟩
      rcases Nat.lt_or_ge i (k + 1) with q | q
      · exact tr _ _ _ (h1 _ _ e) (b i (Nat.lt_succ_iff.mp q))
      · have e' : i = k + 1 := Nat.le_antisymm hi q
        rw [e']
        exact refl _
    | false =>
      rw [if_neg Bool.false_ne_true]
      refine ⟨Nat.le_succ_of_le a, fun i hi => ?_⟩
      rcases Nat.lt_or_ge i (k + 1) with q | q
      · exact b i (Nat.lt_succ_iff.mp q)
      · have e' : i = k + 1 := Nat.le_antisymm hi q
        rw [e']
        exact h2 _ _ e

section
variable {prog : Program} {w : World} {A : Around} {R : Result → Shared → Prop} {I S : Addr} {fp wr : List Addr} {n : Nat} {P : Nat → Value → Prop} {St : Nat → Heap → Prop} {bt : Nat → Nat → Bool} {Gd : Heap → Prop}
/-- two items are compared, whatever else the state is, as long as Gd holds -/
def CmpG (prog : Program) (w : World) (A : Around) (P : Nat → Value → Prop) (Gd : Heap → Prop) (bt : Nat → Nat → Bool) : Prop :=
  ∀ i j vi vj (s : Shared) (Q : Value → Shared → Prop) (E : Value → Shared → Prop), Gd s.heap → P i vi → P j vj → Q (.bool (bt i j)) s → wpAny (model prog w) A (richCompare .Lt vi vj) Q E s
end
section
variable {prog : Program} {w : World} {A : Around} {E : Value → Shared → Prop} {s : Shared}
end

section
variable {X : Cx}
/-- min of a list of ints -/
def rMinI (K : PySem.W.Frag) : List V → Hp → VK → Prop := fun xs H Q => ∃ a ns, xs = [.ref a] ∧ SqL K H a (ns.map V.int) ∧ ns ≠ [] ∧ ∀ m : Int, m ∈ ns → (∀ x ∈ ns, m ≤ x) → Q (.int m) H
end
end L2
end
section
/-! OWN RULES G: what a comprehension's scope must have, by a check. -/
namespace L2
open PySem PySem.Spec PyProof.Rows

/-- the cells that a block takes along -/
def closeOf (cells : List (Str × Addr)) : List (Str × NameKind) → List (Str × Addr) → List (Str × Addr)
  | [], cs => cs
  | (n, k) :: r, cs => closeOf cells r (if k = .free then (n, (cells.lookup n).getD 0) :: cs else cs)
theorem closureFor_of {scope : Scope} {env : Env} (h : ∀ y ∈ scope.names, y.2 = .free → ∃ c, env.cells.lookup y.1 = some c) : closureFor scope env = pure (closeOf env.cells scope.names []) := by
  have all : ∀ (l : List (Str × NameKind)) (cs : List (Str × Addr)), (∀ y ∈ l, y.2 = .free → ∃ c, env.cells.lookup y.1 = some c) →
      (forIn l cs fun (x : Str × NameKind) (r : List (Str × Addr)) => (if (x.2 == NameKind.free) = true then do let a ← cellOf env x.1; pure (ForInStep.yield ((x.1, a) :: r)) else pure (ForInStep.yield r) : Sem (ForInStep (List (Str × Addr))))) = pure (closeOf env.cells l cs) := by
    intro l
    induction l with
    | nil => intro cs _; rfl
    | cons y r ih =>
      intro cs hl
      obtain ⟨n, k⟩ := y
      rw [List.forIn_cons]
      by_cases hk : k = .free
      · obtain ⟨c, hc⟩ := hl (n, k) List.mem_cons_self hk
        subst hk
        have e1 : cellOf env n = pure c := by
          unfold cellOf
          rw [hc]
        have z := ih ((n, c) :: cs) fun y hy => hl y (List.mem_cons_of_mem _ hy)
        simp only [beq_self_eq_true, if_true, e1, pure_bind, closeOf, hc, Option.getD_some]
        exact z
      · have z := ih cs fun y hy => hl y (List.mem_cons_of_mem _ hy)
        have hb : (k == NameKind.free) = false := by simpa using hk
        simp only [hb, Bool.false_eq_true, if_false, pure_bind, closeOf, hk]
        exact z
  unfold closureFor
  have z := all scope.names [] h
  simpa using z
theorem closeOf_out (cells : List (Str × Addr)) : ∀ (l : List (Str × NameKind)) (cs : List (Str × Addr)) (x : Str), (x, NameKind.free) ∉ l → (closeOf cells l cs).lookup x = cs.lookup x
  | [], _, _, _ => rfl
  | (n, k) :: r, cs, x, h => by
    rw [closeOf, closeOf_out cells r _ x fun m => h (List.mem_cons_of_mem _ m)]
    by_cases hk : k = .free
    · subst hk
      rw [if_pos rfl]
      have ne : x ≠ n := fun e => h (by rw [e]; exact List.mem_cons_self)
      rw [List.lookup_cons]
      have : (x == n) = false := by simpa using ne
      rw [this]
    · rw [if_neg hk]
theorem closeOf_in (cells : List (Str × Addr)) : ∀ (l : List (Str × NameKind)) (cs : List (Str × Addr)) (x : Str), (x, NameKind.free) ∈ l → (closeOf cells l cs).lookup x = some ((cells.lookup x).getD 0)
  | (n, k) :: r, cs, x, h => by
    rw [closeOf]
    by_cases hr : (x, NameKind.free) ∈ r
    · exact closeOf_in cells r _ x hr
    · have e : (x, NameKind.free) = (n, k) := (List.mem_cons.mp h).resolve_right hr
      cases e
      rw [if_pos rfl, closeOf_out cells r _ _ hr, List.lookup_cons]
      simp

def compChk (names : List (Str × NameKind)) (NB : List Str) (fv : List (Option Nat)) (XN : List Str) (Xnames : List (Str × NameKind)) : Bool :=
  names.all (fun y => decide (y.2 ≠ .cell)) && names.all (fun y => decide (y.2 ≠ .local) || decide (names.lookup y.1 = some .local)) && decide NB.Nodup && decide (fv.length = NB.length) &&
    names.all (fun y => decide (y.2 ≠ .free) || (decide (Xnames.lookup y.1 = some .cell) && decide (names.lookup y.1 = some .free))) &&
    (List.range NB.length).all (fun i => match fv[i]?, NB[i]? with
      | some (some j), some x => decide (XN[j]? = some x) && decide (names.lookup x = some .free)
      | _, _ => true)

theorem lookup_mem {α : Type} {l : List (Str × α)} {x : Str} {v : α} (h : l.lookup x = some v) : (x, v) ∈ l := PySem.mem_of_lookup h
theorem relabel_lookup {env : Env} (hk : env.scope.kind = .function) : ∀ {l : List (Str × NameKind)} {x : Str} {k : NameKind}, (∀ y ∈ l, y.2 = .free → env.kindOf y.1 = some .cell) → (∀ y ∈ l, y.2 ≠ .cell) →
    (l.map fun (y : Str × NameKind) => if (y.2 == NameKind.free && env.scope.kind == .function && env.kindOf y.1 == some .cell) = true then (y.1, NameKind.cell) else (y.1, y.2)).lookup x = some k → (k = .cell ∧ l.lookup x = some .free) ∨ (k ≠ .cell ∧ k ≠ .free ∧ l.lookup x = some k)
  | [], _, _, _, _, h => by simp at h
  | (n, q) :: r, x, k, h1, h2, h => by
    rw [List.map_cons] at h
    by_cases hq : q = .free
    · subst hq
      have e := h1 (n, .free) List.mem_cons_self rfl
      have ht : (NameKind.free == NameKind.free && env.scope.kind == .function && env.kindOf n == some .cell) = true := by
        rw [hk, show env.kindOf n = some .cell from e]
        decide
      simp only [ht, if_true] at h
      rw [List.lookup_cons] at h ⊢
      cases hx : x == n with
      | true =>
        rw [hx] at h
        have h' : NameKind.cell = k := Option.some.inj h
        exact .inl ⟨h'.symm, rfl⟩
      | false =>
        rw [hx] at h
        exact relabel_lookup hk (fun y hy => h1 y (List.mem_cons_of_mem _ hy)) (fun y hy => h2 y (List.mem_cons_of_mem _ hy)) h
    · have hb : (q == NameKind.free) = false := by simpa using hq
      simp only [hb, Bool.false_and, Bool.false_eq_true, if_false] at h
      rw [List.lookup_cons] at h ⊢
      cases hx : x == n with
      | true =>
        rw [hx] at h
        have h' : q = k := Option.some.inj h
        subst h'
        exact .inr ⟨h2 (n, q) List.mem_cons_self, hq, rfl⟩
      | false =>
        rw [hx] at h
        exact relabel_lookup hk (fun y hy => h1 y (List.mem_cons_of_mem _ hy)) (fun y hy => h2 y (List.mem_cons_of_mem _ hy)) h
theorem relabel_free {env : Env} (hk : env.scope.kind = .function) : ∀ {l : List (Str × NameKind)} {x : Str}, (∀ y ∈ l, y.2 = .free → env.kindOf y.1 = some .cell) → l.lookup x = some .free →
    (l.map fun (y : Str × NameKind) => if (y.2 == NameKind.free && env.scope.kind == .function && env.kindOf y.1 == some .cell) = true then (y.1, NameKind.cell) else (y.1, y.2)).lookup x = some .cell
  | [], _, _, h => by simp at h
  | (n, q) :: r, x, h1, h => by
    rw [List.map_cons]
    rw [List.lookup_cons] at h
    cases hx : x == n with
    | true =>
      rw [hx] at h
      have h' : q = .free := Option.some.inj h
      subst h'
      have e := h1 (n, .free) List.mem_cons_self rfl
      have ht : (NameKind.free == NameKind.free && env.scope.kind == .function && env.kindOf n == some .cell) = true := by
        rw [hk, show env.kindOf n = some .cell from e]
        decide
      simp only [ht, if_true]
      rw [List.lookup_cons, hx]
    | false =>
      rw [hx] at h
      have z := relabel_free hk (fun y hy => h1 y (List.mem_cons_of_mem _ hy)) h
      split
      · rw [List.lookup_cons, hx]
        exact z
      · rw [List.lookup_cons, hx]
        exact z

theorem compOk_of {X : Cx} {scope : Scope} {NB : List Str} {fv : List (Option Nat)} (hk : scope.kind = .function) (hX : X.env.scope.kind = .function) (hcell : ∀ x, X.env.scope.names.lookup x = some .cell → ∃ c, X.env.cells.lookup x = some c)
    (chk : compChk scope.names NB fv X.N X.env.scope.names = true) : CompOk X scope (closeOf X.env.cells scope.names []) NB fv := by
  unfold compChk at chk
  simp only [Bool.and_eq_true, List.all_eq_true, decide_eq_true_eq, Bool.or_eq_true] at chk
  obtain ⟨⟨⟨⟨⟨c1, c2⟩, c3⟩, c4⟩, c5⟩, c6⟩ := chk
  have f1 : ∀ y ∈ scope.names, y.2 = .free → X.env.kindOf y.1 = some .cell := fun y hy e => by
    rcases c5 y hy with z | z
    · exact absurd e z
    · exact z.1
  have hasc : ∀ x, (x, NameKind.free) ∈ scope.names → ∃ c, X.env.cells.lookup x = some c := fun x m => hcell x (f1 _ m rfl)
  have isfree : ∀ x, (relabel scope X.env).names.lookup x = some .cell ∨ (relabel scope X.env).names.lookup x = some .free → scope.names.lookup x = some .free := fun x h => by
    have lem := @relabel_lookup X.env hX scope.names x
    rcases h with h | h
    · rcases lem f1 c1 (k := .cell) h with ⟨_, z⟩ | ⟨z, _⟩
      · exact z
      · exact absurd rfl z
    · rcases lem f1 c1 (k := .free) h with ⟨z, _⟩ | ⟨_, z, _⟩
      · cases z
      · exact absurd rfl z
  refine ⟨closureFor_of fun y hy e => ?_, hk, c1, fun y hy e => ?_, c3, c4, fun x c h => ?_, fun x h => ?_, fun i x j h1 h2 => ?_⟩
  · obtain ⟨n, q⟩ := y
    have e' : q = .free := e
    subst e'
    exact hasc n hy
  · rcases c2 y hy with z | z
    · exact absurd e z
    · exact z
  · by_cases m : (x, NameKind.free) ∈ scope.names
    · obtain ⟨c', hc'⟩ := hasc x m
      rw [closeOf_in _ _ _ _ m, hc'] at h
      rw [hc']
      exact h
    · rw [closeOf_out _ _ _ _ m] at h
      cases h
  · have m := lookup_mem (isfree x h)
    exact ⟨_, closeOf_in _ _ _ _ m⟩
  · have hi : i < NB.length := (List.getElem?_eq_some_iff.mp h1).1
    have z := c6 i (List.mem_range.mpr hi)
    rw [h1, h2] at z
    simp only [Bool.and_eq_true, decide_eq_true_eq] at z
    have m := lookup_mem z.2
    have kc := f1 _ m rfl
    refine ⟨z.1, .inr (.inl kc), ?_, ⟨_, closeOf_in _ _ _ _ m⟩, .inl (relabel_free hX f1 z.2)⟩
    rw [kc]
    decide
/-- for a def's body -/
theorem compOk_fn {CX : CXT} {P : Program} {w : World} {K : PySem.W.Frag} {mg : Str → Option Value} {base : Heap} {N : List Str} {qual : Str} {sc scope : Scope} {f : Addr} {cd : Value} {A : Around} {outer : List Env} {s : Shared} {H : Hp} {E : XK} {NB : List Str} {fv : List (Option Nat)}
    (hk : scope.kind = .function) (hX : sc.kind = .function) (chk : compChk scope.names NB fv N sc.names = true) :
    CompOk (cxOf CX P w K mg base N qual sc f cd A outer s H E).nox scope (closeOf (cxOf CX P w K mg base N qual sc f cd A outer s H E).env.cells scope.names []) NB fv :=
  compOk_of hk hX (fun x h => cell_has h) chk
theorem compOk_fnE {CX : CXT} {P : Program} {w : World} {K : PySem.W.Frag} {mg : Str → Option Value} {base : Heap} {N : List Str} {qual : Str} {sc scope : Scope} {f : Addr} {cd : Value} {A : Around} {outer : List Env} {s : Shared} {H : Hp} {E : XK} {NB : List Str} {fv : List (Option Nat)}
    (hk : scope.kind = .function) (hX : sc.kind = .function) (chk : compChk scope.names NB fv N sc.names = true) :
    CompOk (cxOf CX P w K mg base N qual sc f cd A outer s H E) scope (closeOf (cxOf CX P w K mg base N qual sc f cd A outer s H E).env.cells scope.names []) NB fv :=
  compOk_of hk hX (fun x h => cell_has h) chk
end L2
end
section
/-! OWN RULES H: isinstance of an error that was caught, and of several classes. -/
namespace L2
open PySem PySem.Spec PyProof.Rows

/-- what the text must have of an own error's class -/
structure ExcC (K : PySem.W.Frag) (C : Addr) : Prop where
  ga : PySem.W.findIn K (.ref C) "__getattribute__" = some (some (.builtin "BaseException.__getattribute__"))
  gn : PySem.W.findIn K (.ref C) "__getattr__" = some none
  gc : PySem.W.findIn K (.ref C) "__class__" = some (some (.builtin "object.__class__"))
  mo : PySem.W.mroIn K C (.type "object") = some true
  mb : PySem.W.mroIn K C (.type "BaseException") = some true
  cl : (PySem.W.clsIn K C).isSome = true
theorem isT_of {K : PySem.W.Frag} {C : Addr} {M : Model} {h : Heap} (X : K.In h) (e : (PySem.W.clsIn K C).isSome = true) : PySem.W.Looks M h (isType (.ref C)) true := by
  unfold PySem.W.clsIn at e
  split at e
  · rename_i c d cd sl look
    intro A' Q' E' s' k q
    unfold isType loadHead
    exact wpAny_bind (wpAny_loadPart (k _ _ (X _ _ look)) (wpAny_pure q))
  · cases e
/-- an error at a, of class C -/
def ErrAt (a C : Addr) (h : Heap) : Prop := ∃ o, h.get? a = some o ∧ o.cls = .ref C
section
variable {prog : Program} {w : World} {A : Around} {E : Value → Shared → Prop} {K : PySem.W.Frag} {h : Heap} {g : Array GenState} {d : Drawn} {t : Nat} {os : OsState} {a C : Addr} {o : Obj}
theorem err_ty {M : Model} (p : ErrAt a C h) : PySem.W.Looks M h (typeOf (.ref a)) (.ref C) := by
  obtain ⟨o, e, c⟩ := p
  exact c ▸ (PySem.W.Looks.ld e).andThen .now
theorem err_get {R : Result → Shared → Prop} (X : K.In h) (c : ExcC K C) (p : ErrAt a C h) (hq : R (.ok (.ret (.ref C))) ⟨h, g, d, t, os⟩) :
    codeAny (model prog w) A (.call (.builtin "getset_descriptor.__get__") ⟨[.builtin "object.__class__", .ref a, .ref C], []⟩) R ⟨h, g, d, t, os⟩ := by
  have L0 := err_ty (M := model prog w) p
  have L1 := PySem.W.looks_mroIn (M := model prog w) X c.mo
  have hT5 : (⟨h, g, d, t, os⟩ : Shared).TypeIs (.builtin "object.__class__") "getset_descriptor" := PySem.F.typeOf_object_class
  refine codeAny_call_builtin PySem.F.slot_gs_get.plain PySem.F.entry_gs_get (PySem.F.slot_gs_get.check _ _ _ _ _ _ _ _ hT5 (PySem.F.args_gs_get _ _ _) ?_)
  have ho := PySem.F.owner_object_class
  rw [← ho] at L1
  repeat (any_goals (first | assumption | with_reducible refine PySem.W.Looks.at L0 ?_ | with_reducible refine PySem.W.Looks.at L1 ?_ | wp_step))
  refine ⟨Code.quiet_builtin _ (by decide +kernel), codeAny_builtin PySem.F.entry_object_class ?_⟩
  repeat (any_goals (first | assumption | with_reducible refine PySem.W.Looks.at L0 ?_ | with_reducible refine PySem.W.Looks.at L1 ?_ | wp_step))
theorem err_entry {tk : Tok} {Q : Fin → Shared → Prop} (X : K.In h) (c : ExcC K C) (p : ErrAt a C h) (hq : Q (.done (.ret (.ref C))) ⟨h, g, d, t, os⟩) :
    wpAny (model prog w) A (Builtin.«object.__getattribute__» ⟨[.ref a, .str "__class__" tk], []⟩) Q E ⟨h, g, d, t, os⟩ := by
  have L0 := err_ty (M := model prog w) p
  have L2 := PySem.W.looks_findIn (M := model prog w) X c.gc
  have hT5 : (⟨h, g, d, t, os⟩ : Shared).TypeIs (.builtin "object.__class__") "getset_descriptor" := PySem.F.typeOf_object_class
  have f5 := PySem.F.typeOf_object_class
  have f6 := PySem.F.slot_gs_get.lookup
  have f7 := PySem.F.slot_gs_set.lookup
  repeat (any_goals (first | assumption | with_reducible refine PySem.W.Looks.at L0 ?_ | with_reducible refine PySem.W.Looks.at L2 ?_ | wp_step))
  refine err_get X c p ?_
  repeat (any_goals (first | assumption | wp_step))
theorem err_check {M : Model} {nameV : Value} {Q : Unit → Shared → Prop} (X : K.In h) (c : ExcC K C) (p : ErrAt a C h) (hq : Q () ⟨h, g, d, t, os⟩) : wpAny M A (checkBuiltinCall "BaseException.__getattribute__" ⟨[.ref a, nameV], []⟩) Q E ⟨h, g, d, t, os⟩ := by
  have hk : builtinKind "BaseException.__getattribute__" = some .slot := by decide +kernel
  have hsplit : splitId "BaseException.__getattribute__" = some ("BaseException", "__getattribute__") := by decide +kernel
  have L0 := err_ty (M := M) p
  have L1 := PySem.W.looks_mroIn (M := M) X c.mb
  have ha := PySem.F.args_bexc_ga (.ref a) nameV
  simp only [checkBuiltinCall, hk, hsplit]
  refine wpAny_bind ?_
  unfold isInstance
  repeat (any_goals (first | with_reducible refine PySem.W.Looks.at L0 ?_ | with_reducible refine PySem.W.Looks.at L1 ?_ | wp_step))
  exact hq
theorem err_call {tk : Tok} {R : Result → Shared → Prop} (X : K.In h) (c : ExcC K C) (p : ErrAt a C h) (hq : R (.ok (.ret (.ref C))) ⟨h, g, d, t, os⟩) :
    codeAny (model prog w) A (.call (.builtin "BaseException.__getattribute__") ⟨[.ref a, .str "__class__" tk], []⟩) R ⟨h, g, d, t, os⟩ :=
  codeAny_call_builtin PySem.F.attr_ValueError.ga.plain PySem.F.entry_bexc_ga (err_check X c p (err_entry X c p hq))
theorem err_by {tk : Tok} {Q : Value → Shared → Prop} (X : K.In h) (c : ExcC K C) (p : ErrAt a C h) (hq : Q (.ref C) ⟨h, g, d, t, os⟩) : wpAny (model prog w) A (getAttrBy (.ref a) (.str "__class__" tk) false) Q E ⟨h, g, d, t, os⟩ := by
  have L0 := err_ty (M := model prog w) p
  have L1 := PySem.W.looks_findIn (M := model prog w) X c.ga
  have L2 := PySem.W.looks_findIn (M := model prog w) X c.gn
  have f3 := PySem.F.attr_ValueError.ga.bind (.ref a)
  have hx2 : (Value.builtin "BaseException.__getattribute__" == Value.builtin "object.__getattribute__") = false := by decide +kernel
  have hx1 : (onTheHeap (Value.ref C) && Value.builtin "BaseException.__getattribute__" == Value.builtin "object.__getattribute__") = false := by rw [hx2]; rfl
  repeat (any_goals (first | assumption | with_reducible refine PySem.W.Looks.at L0 ?_ | with_reducible refine PySem.W.Looks.at L1 ?_ | with_reducible refine PySem.W.Looks.at L2 ?_ | wp_step))
  refine err_call X c p ?_
  repeat (any_goals (first | assumption | wp_step))
theorem err_attr {Q : Option Value → Shared → Prop} (X : K.In h) (c : ExcC K C) (p : ErrAt a C h) (hq : Q (some (.ref C)) ⟨h, g, d, t + 1, os⟩) : wpAny (model prog w) A (getAttr? (.ref a) "__class__") Q E ⟨h, g, d, t, os⟩ := by
  unfold getAttr? getAttrBy?
  repeat (any_goals (first | assumption | with_reducible apply err_by X c p | wp_step))
theorem kitx_err (c : ExcC K C) : PySem.W.KitX K (.ref a) (.ref C) (ErrAt a C) where
  ty := fun M h _ p => err_ty p
  it := fun M h X _ => isT_of X c.cl
  ne := fun h tp dd its n sl X htp => by
    refine Bool.eq_false_iff.mpr fun q => ?_
    have e : C = tp := Value.ref.inj (beq_iff_eq.mp q)
    subst e
    have z := c.cl
    unfold PySem.W.clsIn at z
    split at z
    · rename_i c' d' cd' sl' ho
      have y := (X _ _ ho).symm.trans htp
      cases y
    · cases z
  ca := fun {_ _ _ _ _ s} X p k => by
    obtain ⟨h, g, d, t, os⟩ := s
    exact err_attr X c p k
end

section
variable {X : Cx}
/-- isinstance(e, c), e an error that was caught -/
def rIsiE (K : PySem.W.Frag) : List V → Hp → VK → Prop := fun xs H Q => ∃ a C c cv b, xs = [.ref a, c] ∧ H a = some (excO a (.ref C)) ∧ ExcC K C ∧ clsV c = some cv ∧ PySem.W.kitOne K (.ref C) cv = some b ∧ Q (.bl b) H
theorem Inv.err {pins : List (Addr × Obj)} {σ : St} {H : Hp} {s : Shared} {a C : Addr} (I : Inv X pins σ H s) (e : H a = some (excO a (.ref C))) : ErrAt a C s.heap := by
  obtain ⟨⟨o, vs, h1, h2, _⟩, _⟩ := (show ObjOk X.prog X.w H s.heap a (excO a (.ref C)) from I.hok a _ e)
  exact ⟨o, h1, h2⟩
theorem call_isiE : CallR X (.builtin "isinstance") (rIsiE X.K) := by
  intro pins s σ H xs us Q I r h
  obtain ⟨a, C, c, cv, b, rfl, ea, ec, rc, e, q⟩ := h
  obtain ⟨u, u', rfl, ru, ru'⟩ := vals2 r
  cases clsV_rel rc ru'
  cases (show u = Value.ref a from ru)
  exact PySem.W.kia_one (kitx_err ec) I.kIn (I.err ea) e (fun z => nomatch z) fun tk => ⟨.bl b, H, I.tok _, rfl, q⟩
/-- isinstance(e, (c, ..)), e an error that was caught -/
def rIsiT (K : PySem.W.Frag) : List V → Hp → VK → Prop := fun xs H Q => ∃ a C p cs cvs b, xs = [.ref a, .ref p] ∧ H a = some (excO a (.ref C)) ∧ ExcC K C ∧ SqT K H p cs ∧ cs.map clsV = cvs.map some ∧ PySem.W.kitAny K (.ref C) cvs = some b ∧ Q (.bl b) H
theorem clsV_all {cs : List V} : ∀ {cvs us : List Value}, cs.map clsV = cvs.map some → Vals cs us → us = cvs := by
  induction cs with
  | nil =>
    intro cvs us h r
    cases r
    cases cvs with
    | nil => rfl
    | cons _ _ => cases h
  | cons c cs ih =>
    intro cvs us h r
    cases cvs with
    | nil => cases h
    | cons v vs =>
      cases r with
      | cons r1 r2 =>
        rw [List.map_cons, List.map_cons] at h
        injection h with h1 h2
        rw [ih h2 r2, clsV_rel h1 r1]
theorem call_isiT : CallR X (.builtin "isinstance") (rIsiT X.K) := by
  intro pins s σ H xs us Q I r h
  obtain ⟨a, C, p, cs, cvs, b, rfl, ea, ec, hp, rc, e, q⟩ := h
  obtain ⟨u, u', rfl, ru, ru'⟩ := vals2 r
  cases (show u = Value.ref a from ru)
  cases (show u' = Value.ref p from ru')
  obtain ⟨its, rv, ⟨o, ho, hc, n, hd⟩, hz⟩ := I.tuple hp
  cases clsV_all rc rv
  obtain ⟨c0, dd, dt, sl⟩ := o
  simp only at hc hd
  subst hc hd
  exact PySem.W.kia_tup (kitx_err ec) I.kIn (I.err ea) ho e (fun z => nomatch z) fun tk => ⟨.bl b, H, I.tok _, rfl, q⟩
end
end L2
end
section
/-! OWN RULES I: sum, max of two, int of a truth, count and index of truths, min of pairs, sorted of a dict's keys, all. -/
namespace L2
open PySem PySem.Spec PyProof.Rows PySem.SeqAt

section
variable {X : Cx}
/-- sum of a list of ints -/
def rSumI (K : PySem.W.Frag) : List V → Hp → VK → Prop := fun xs H Q => ∃ (a : Addr) (ns : List Int), xs = [.ref a] ∧ SqL K H a (ns.map V.int) ∧ Q (.int ns.sum) H
def isTr (y : Value) : Bool := match y with | .bool b => b | _ => false
/-- [..].count(True) -/
def rCountT (K : PySem.W.Frag) : V → List V → Hp → VK → Prop := fun x xs H Q => ∃ (a : Addr) (bs : List Bool), x = .ref a ∧ xs = [.bl true] ∧ SqL K H a (bs.map V.bl) ∧ Q (.int (bs.count true)) H
/-- [..].index(True) -/
def rIndexT (K : PySem.W.Frag) : V → List V → Hp → VK → Prop := fun x xs H Q => ∃ (a : Addr) (bs : List Bool) (j : Nat), x = .ref a ∧ xs = [.bl true] ∧ SqL K H a (bs.map V.bl) ∧ bs.length ≤ 1000 ∧ bs[j]? = some true ∧ (∀ m, m < j → bs[m]? = some false) ∧ Q (.int (j : Int)) H
/-- min of a list of pairs of ints -/
def leP (p q : Int × Int) : Prop := p.1 < q.1 ∨ (p.1 = q.1 ∧ p.2 ≤ q.2)
def rMinP (K : PySem.W.Frag) : List V → Hp → VK → Prop := fun xs H Q => ∃ (a : Addr) (rs : List (Addr × Int × Int)), xs = [.ref a] ∧ SqL K H a (rs.map fun r => V.ref r.1) ∧ rs ≠ [] ∧ (∀ r ∈ rs, SqT K H r.1 [.int r.2.1, .int r.2.2]) ∧ ∀ r ∈ rs, (∀ r' ∈ rs, leP r.2 r'.2) → Q (.ref r.1) H
end

theorem vals_by : ∀ {xs : List V} {us : List Value}, us.length = xs.length → (∀ (j : Nat) u, us[j]? = some u → ∃ x, xs[j]? = some x ∧ RelV x u) → Vals xs us
  | [], [], _, _ => .nil
  | [], _ :: _, h, _ => by simp at h
  | _ :: _, [], h, _ => by simp at h
  | x :: xs, u :: us, h, f => by
    obtain ⟨y, e, r⟩ := f 0 u rfl
    simp at e
    subst e
    exact .cons r (vals_by (by simpa using h) fun j v hj => f (j + 1) v (by simpa using hj))
/-! ### sorted(d) -/
section
variable {prog : Program} {w : World} {A : Around} {E : Value → Shared → Prop} {s : Shared} {T : String} {r d : Addr} {n : Nat} {P : Nat → Value → Prop} {OK : Heap → Prop}
theorem collect_src {Q : List Value → Shared → Prop} (K : PySem.W.KdlSrc prog w T r d n P OK) (hh : A.handled = none) (hok : OK s.heap) (hn : n ≤ sizeLine)
    (h : ∀ (h' : Heap) tk (vs : List Value), (∀ b o, s.heap.get? b = some o → h'.get? b = some o) → vs.length = n → (∀ (j : Nat) v, vs[j]? = some v → P j v) → Q vs { s with heap := h', toks := tk }) :
    wpAny (model prog w) A (collect (.ref r)) Q E s := by
  have lt := K.there _ hok
  have key : ∀ R : Result → Shared → Prop, (∀ (h' : Heap) (tk : Nat) (acc : Array Value) (c : Nat), (∀ b o, b ≠ s.heap.objs.size → (s.heap.push (seqObj "list" #[] 0)).get? b = some o → h'.get? b = some o) → h'.get? s.heap.objs.size = some { cls := .type "list", dict := none, data := .seq acc c, slots := #[] } → ItemsOf P acc n →
      R (.ok (.ret (.ref s.heap.objs.size))) { s with heap := h', toks := tk }) → codeAny (model prog w) A (.builtin "list.__iadd__" ⟨[.ref s.heap.objs.size, .ref r], []⟩) R { s with heap := s.heap.push (seqObj "list" #[] 0) } := fun R hR => by
    refine codeAny_builtin entry_list_iadd' ?_
    rw [Around.under_plainId (by decide +kernel) _]
    exact PySem.W.kdl_extend (s := { s with heap := s.heap.push (seqObj "list" #[] 0) }) K hh (K.keep _ _ hok fun b _ o e => Heap.get?_push_of_some _ e) s.heap.objs.size (Nat.ne_of_gt lt.1) (Nat.ne_of_gt lt.2) _ 0 (Heap.get?_push_size _ rfl) hR hn
  unfold collect
  refine wpAny_bind (wpAny_runValue (codeAny_builtin entry_proto_collect' ?_))
  show wpAny _ _ (do again (.builtin "list.__iadd__" ⟨[← newList [], .ref r], []⟩)) _ _ s
  refine wpAny_bind (wpAny_newList (wpAny_pure ⟨Code.quiet_builtin _ (by decide +kernel), key _ fun h' tk acc c kk hS hacc => ?_⟩))
  refine wpAny_bind (wpAny_load hS ?_)
  refine wpAny_pure (h h' tk acc.toList (fun b o e => kk b o (Nat.ne_of_lt (Heap.lt_size e)) (Heap.get?_push_of_some _ e)) ?_ fun j v e => ?_)
  · rw [Array.length_toList]; exact hacc.1
  · exact hacc.2 j v (by rw [← Array.getElem?_toList]; exact e)
theorem sorted_src {Q : Value → Shared → Prop} (K : PySem.W.KdlSrc prog w T r d n P OK) (hh : A.handled = none) (hok : OK s.heap) (hn : n < 64) (hP : ∀ vs : List Value, vs.length = n → (∀ (j : Nat) v, vs[j]? = some v → P j v) → ∃ ns, IntsAre vs ns ∧ ∀ (h' : Heap) tk (vs' : List Value) (ns' : List Int) (a : Addr) (e : Nat) (h1 : Heap), (∀ b o, s.heap.get? b = some o → h1.get? b = some o) →
      h1.objs.size ≤ a → (∀ b o, h1.get? b = some o → h'.get? b = some o) → h'.get? a = some (seqObj "list" vs'.toArray e) → IntsAre vs' ns' → ns'.Perm ns → ns'.Pairwise (· ≤ ·) → Q (.ref a) { s with heap := h', toks := tk }) :
    wpAny (model prog w) A (call (.builtin "sorted") [.ref r]) Q E s := by
  refine Calls.call_function_entry kind_sorted plain_sorted entry_sorted (args_sorted1 _) ?_
  unfold Builtin.«sorted»
  refine wpAny_bind (m := checkCount "sorted" 1 1 _) (wpAny_pure ?_)
  refine wpAny_bind (collect_src K hh hok (Nat.le_trans (Nat.le_of_lt hn) (by decide)) fun h1 tk vs kk hl hv => ?_)
  obtain ⟨ns, hI, fin⟩ := hP vs hl hv
  refine wpAny_bind (wpAny_newList ?_)
  have hoL : (h1.push (seqObj "list" vs.toArray 0)).get? h1.objs.size = some (seqObj "list" vs.toArray 0) := Heap.get?_push_size _ rfl
  refine wpAny_bind (wpAny_holding (wpAny_call_entry slot_list_sort ⟨_, hoL, rfl⟩ entry_list_sort (list_sort_tree hoL hI (by omega) fun out ns' a1 a2 a3 => ⟨_, rfl, ?_⟩) (args_list_sort _)))
  obtain ⟨e, he⟩ := sortedHeap_at (out := out) hoL
  refine wpAny_pure ⟨_, rfl, fin _ tk out.toList ns' h1.objs.size e h1 kk (Nat.le_refl _) (fun b o q => ?_) (by simpa using he) a1 a2 a3⟩
  have z := Heap.get?_push_of_some (seqObj "list" vs.toArray 0) q
  have hb : b ≠ h1.objs.size := Nat.ne_of_lt (Heap.lt_size q)
  rw [sortedHeap_old hb (Heap.lt_size z)]
  exact z
end
section
variable {X : Cx}
/-- sorted(d), d a dict of ints, not many -/
def rSortedD : List V → Hp → VK → Prop := fun xs H Q => ∃ (a : Addr) (kvs : List (Int × V)), xs = [.ref a] ∧ H a = some (.dK (kvs.map fun p => (Sum.inl p.1, p.2))) ∧ kvs.length < 64 ∧
  ∀ ns' : List Int, ns'.Perm (kvs.map (·.1)) → ns'.Pairwise (· ≤ ·) → ∀ p, H p = none → Q (.ref p) (upd H p (.lst (ns'.map V.int)))
theorem call_sortedD (hc : X.calm = true) : CallR X (.builtin "sorted") rSortedD := by
  intro pins s σ H xs us Q I r h
  obtain ⟨a, kvs, rfl, ha, hl', k⟩ := h
  obtain ⟨u, rfl, ru⟩ := vals1 r
  cases ru
  obtain ⟨z, hd, vs, rv, dd⟩ := dk_of I.hok ha
  have hlen : kvs.length = vs.length := by rw [← Paired.length rv, List.length_map]
  obtain ⟨o, es, ep, ho, hr⟩ := id dd
  have da : s.heap.DictAt (mixKind X.prog X.w) a vs ep := ⟨o, es, ho, hr⟩
  refine sorted_src (PySem.W.kdl_dict (kvs := vs) (ep := ep) hd) (I.ok.hd hc) da (by omega) fun us hl hv => ⟨kvs.map (·.1), ?_, fun h' tk vs' ns' p e h1 k1 hp k2 hat hi hperm hpw => ?_⟩
  · refine intsAre_of (vals_by (by rw [List.length_map, List.length_map]; omega) fun j v hj => ?_)
    obtain ⟨kk, x, h1, h2⟩ := hv j v hj
    have hlt : j < kvs.length := by
      have := (List.getElem?_eq_some_iff.mp hj).1
      omega
    obtain ⟨w, hw, _⟩ := KV.at rv (i := j) (k := Sum.inl kvs[j].1) (v := kvs[j].2) (by simp [hlt])
    rw [h1] at hw
    cases hw
    exact ⟨.int kvs[j].1, by simp [hlt], kV_of h2⟩
  · have I1 : Inv X pins σ H { s with heap := h1, toks := tk } := I.kept k1
    refine ⟨.ref p, _, I1.laid (o := .lst (ns'.map V.int)) (t' := tk) k2 hp ⟨?_, vs', e, vals_ints hi, hat⟩, rfl, k ns' hperm hpw p (I1.hok.fresh hp)⟩
    rw [List.length_map, hperm.length_eq, List.length_map]
    exact Nat.le_trans (Nat.le_of_lt hl') (by decide)
end
end L2
end
section
/-! OWN RULES J: texts with numbers in them, insert into a list, enumerate of a tuple, min of a list with None as what is told of an empty one. -/
namespace L2
open PySem PySem.Spec PyProof.Rows PySem.SeqAt

/-! ### texts with numbers in them -/
/-- the parts of a text: each of them is a text of at most 2000 signs -/
abbrev TF := St → Hp → (Hp → Prop) → Prop
def PFs (X : Cx) (es : List Expr) (t : TF) : Prop :=
  ∀ (pins : List (Addr × Obj)) (s : Shared) (σ : St) (H : Hp) (out : Str) (Q : VK), Inv X pins σ H s → out.length + 2000 * es.length ≤ sizeLine → t σ H (fun H' => ∀ y, Q (.str y) H') →
    wpAny (model X.prog X.w) X.A (joinParts out (evalEach es X.env)) (EP X pins σ Q) X.xe s
section
variable {X : Cx} {e : Expr} {es : List Expr} {te : TE} {t : TF} {pos : Pos}
theorem pf_nil : PFs X [] (fun _ H Q => Q H) := fun pins s σ H out Q I hz h =>
  joinParts_nil (s := s) ⟨.str out, H, I.tok _, ⟨_, rfl⟩, h out⟩ (by simp at hz; exact hz)
theorem pf_str {x j p} (hr : PFs X es t) (hx : x.length ≤ 2000 := by decide) : PFs X (.Constant (.str x) j p :: es) t := fun pins s σ H out Q I hz h => by
  have hz2 : out.length + 2000 * (es.length + 1) ≤ sizeLine := hz
  have e1 : (out ++ x).length = out.length + x.length := strLen_append _ _
  show wpAny _ _ (joinParts out (eval (.Constant (.str x) j p) X.env :: evalEach es X.env)) _ _ s
  refine joinParts_cons (Calls.Constant_str ⟨by rw [e1]; omega, ?_⟩)
  exact hr pins _ σ H _ Q (I.tok _) (by rw [e1]; omega) h
theorem len_small {a : Int} (h : a.natAbs.log2 < 1920) : (toString a : Str).length ≤ 2000 := by
  have e := int_text_length_le (k := 1920) (by decide) h
  show (Str.ofString (toString a)).length ≤ 2000
  rw [PySem.ofString_length]
  omega
theorem pf_int {p : Pos} (he : PE X e te) (hr : PFs X es t) : PFs X (.FormattedValue e (-1) none p :: es) (fun σ H Q => te σ H fun x H1 => ∃ i, x = .int i ∧ i.natAbs.log2 < 1920 ∧ t σ H1 Q) := fun pins s σ H out Q I hz h => by
  have hz2 : out.length + 2000 * (es.length + 1) ≤ sizeLine := hz
  show wpAny _ _ (joinParts out (eval (.FormattedValue e (-1) none p) X.env :: evalEach es X.env)) _ _ s
  refine joinParts_cons (FormattedValue_plain (thn (he pins s σ H _ I h) fun u s1 ⟨x, H1, I1, r1, i, e1, hs, q⟩ => ?_))
  subst e1
  obtain ⟨tk, rfl⟩ := r1
  have e2 : (out ++ (toString i : Str)).length = out.length + (toString i : Str).length := strLen_append _ _
  have e3 := len_small hs
  refine formatField_int_small hs ⟨by rw [e2]; omega, ?_⟩
  exact hr pins _ σ H1 _ Q ((I1.tok _).tok _) (by rw [e2]; omega) q
def tFStr (t : TF) : TE := fun σ H Q => t σ H (fun H' => ∀ y, Q (.str y) H')
theorem pe_fstr {e2 : Expr} (h : PFs X (e :: e2 :: es) t) (hz : 2000 * (e :: e2 :: es).length ≤ sizeLine := by decide) : PE X (.JoinedStr (e :: e2 :: es) pos) (tFStr t) := fun pins s σ H Q I hq =>
  JoinedStr_many (h pins s σ H Str.empty Q I (by show 0 + _ ≤ _; omega) hq)
end
/-! ### insert -/
section
variable {X : Cx}
theorem Vals.ins {xs : List V} {us : List Value} {y : V} {u : Value} (h : Vals xs us) (r : RelV y u) (k : Nat) : Vals (xs.take k ++ y :: xs.drop k) (us.take k ++ u :: us.drop k) := (h.take k).append (.cons r (h.drop k))
def rInsert : V → List V → Hp → VK → Prop := fun x vs H Q => ∃ l xs i y, x = .ref l ∧ vs = [.int i, y] ∧ H l = some (.lst xs) ∧ 0 ≤ i ∧ i ≤ xs.length ∧ xs.length < sizeLine ∧ Q .non (upd H l (.lst (xs.take i.toNat ++ y :: xs.drop i.toNat)))
theorem mt_insert : MtM X "list.insert" rInsert := by
  intro pins s σ H x vs v us Q I rx rv h
  obtain ⟨l, xs, i, y, rfl, rfl, hH, h1, h2, hz, q⟩ := h
  cases rx
  obtain ⟨u, v, rfl, ru, rvv⟩ := rv.two
  obtain ⟨t, rfl⟩ := ru
  obtain ⟨z, its, n, r, hl, e⟩ := I.lstM hH
  have b1 : xs.length < 2 ^ 24 := hz
  refine call_meets F.slot_list_insert ⟨_, e, rfl⟩ F.entry_list_insert (F.args_list_insert_3 _ _ _)
    (PySem.AutoSeq1.list_insert_list_int_val_1 l its.toArray n i t v (by rw [show Builtin.List.listFitsIndex i = true from fitsIndex_both (by omega) (by omega)]; simp) (by rw [List.size_toArray]; omega)) ⟨e, ?_⟩
  refine ⟨.non, _, I.lset (its' := its.take i.toNat ++ v :: its.drop i.toNat) hH e ?_ (r.ins rvv i.toNat) ?_, rfl, q⟩
  · show (its.toArray.extract 0 (if i < 0 then (i + (its.toArray.size : Int)).toNat else min i.toNat its.toArray.size)).push v ++ its.toArray.extract (if i < 0 then (i + (its.toArray.size : Int)).toNat else min i.toNat its.toArray.size) = _
    rw [if_neg (by omega), List.size_toArray, Nat.min_eq_left (by omega)]
    exact PySem.W.kl_ins_eq its i.toNat v
  · rw [List.length_append, List.length_cons, List.length_take, List.length_drop]
    omega
end
/-! ### enumerate of a tuple -/
section
variable {prog : Program} {w : World} {A : Around} {E : Value → Shared → Prop} {s : Shared}
theorem nextOf_tup_item {it l : Addr} {i : Nat} {items : Array Value} {x : Value} {Q : Value → Shared → Prop} (hit : s.heap.IsTupleIter it l i) (hl : s.heap.IsTuple l items) (hx : items[i]? = some x)
    (hQ : ∀ h', h'.IsTupleIter it l (i + 1) → Heap.SameBut it s.heap h' → Q x { s with heap := h' }) : wpAny (model prog w) A (Builtin.SmallTypes.nextOf (.ref it)) Q E s := by
  obtain ⟨o, ho, hc, hd⟩ := id hit
  obtain ⟨ol, hol, _, nl, hdl⟩ := hl
  unfold Builtin.SmallTypes.nextOf
  refine wpAny_bind (wpAny_callSpecial?_slot (name := Str.ofString "__next__") hit.typeIs F.slot_tuple_iterator_next (wpAny_call_entry F.slot_tuple_iterator_next hit.typeIs F.entry_tuple_iterator_next ?_ (F.args_tuple_iterator_next_1 _)))
  show wpAny _ _ (field (.ref it) 0 >>= _) _ _ s
  refine wpAny_bind (wpAny_field ho hd (x := .ref l) rfl ?_)
  show wpAny _ _ (if (Value.ref l == Value.none) = true then _ else _) _ _ s
  rw [if_neg (show ¬ ((Value.ref l == Value.none) = true) from Bool.false_ne_true)]
  show wpAny _ _ (field (.ref it) 1 >>= _) _ _ s
  refine wpAny_bind (wpAny_field ho hd (x := .int i 0) rfl ?_)
  show wpAny _ _ (seqItems? (.ref l) >>= _) _ _ s
  refine wpAny_bind (wpAny_seqItems hol hdl ?_)
  simp only [Int.toNat_natCast, hx]
  refine wpAny_bind (wpAny_setField ho hd (by simp) (wpAny_pure ⟨x, rfl, wpAny_pure (hQ _ ?_ (Heap.SameBut.update ..))⟩))
  exact ⟨_, Heap.get?_update_self _ ho (Obj.isFreed_of_fields (Obj.data_mapFields hd _)), (Obj.cls_mapFields ..).trans hc, by
    rw [Obj.data_mapFields hd]; simp [rawInt]⟩
theorem nextOf_tup_end {it l : Addr} {i : Nat} {items : Array Value} {Q : Value → Shared → Prop} (hh : A.handled = none) (hit : s.heap.IsTupleIter it l i) (hl : s.heap.IsTuple l items) (hx : items[i]? = none)
    (hE : ∀ h' e, Heap.ExtBut it s.heap h' → (∃ o, h'.get? e = some o ∧ o.cls = .type "StopIteration") → E (.ref e) { s with heap := h' }) : wpAny (model prog w) A (Builtin.SmallTypes.nextOf (.ref it)) Q E s := by
  obtain ⟨o, ho, hc, hd⟩ := id hit
  obtain ⟨ol, hol, _, nl, hdl⟩ := hl
  unfold Builtin.SmallTypes.nextOf
  refine wpAny_bind (wpAny_callSpecial?_slot (name := Str.ofString "__next__") hit.typeIs F.slot_tuple_iterator_next (wpAny_call_entry F.slot_tuple_iterator_next hit.typeIs F.entry_tuple_iterator_next ?_ (F.args_tuple_iterator_next_1 _)))
  show wpAny _ _ (field (.ref it) 0 >>= _) _ _ s
  refine wpAny_bind (wpAny_field ho hd (x := .ref l) rfl ?_)
  show wpAny _ _ (if (Value.ref l == Value.none) = true then _ else _) _ _ s
  rw [if_neg (show ¬ ((Value.ref l == Value.none) = true) from Bool.false_ne_true)]
  show wpAny _ _ (field (.ref it) 1 >>= _) _ _ s
  refine wpAny_bind (wpAny_field ho hd (x := .int i 0) rfl ?_)
  show wpAny _ _ (seqItems? (.ref l) >>= _) _ _ s
  refine wpAny_bind (wpAny_seqItems hol hdl ?_)
  simp only [Int.toNat_natCast, hx]
  refine wpAny_bind (wpAny_rule (wpAny_bind (wpAny_setField ho hd (by simp) ?_)))
  show wpAny _ _ (newExc (.type "StopIteration") [] >>= _) _ _ _
  refine wpAny_bind ?_
  simp only [newExc, newTuple]
  refine wpAny_bind (wpAny_newObj_type ?_ (by size_fits))
  refine wpAny_bind (m := firstArgMember _ _) (wpAny_of_eq (a := Value.none) (by first | rfl | (simp only [firstArgMember]; rfl)) ?_)
  refine wpAny_newObj_type ?_ (by size_fits)
  simp only [raiseNew]
  refine wpAny_bind (wpAny_handled ?_)
  first | rw [show A.in1.handled = none from hh] | rw [hh]
  refine wpAny_bind (wpAny_pure (wpAny_throw ?_))
  exact hE _ _ (((Heap.SameBut.update ..).extBut.push _).push _) ⟨_, Heap.get?_push_size _ rfl, rfl⟩
theorem draws_tup (hh : A.handled = none) (it l : Addr) (hne : l ≠ it) (items : Array Value) : Draws prog w A it [it, l] items.size (fun i v => items[i]? = some v) (fun i h => h.IsTupleIter it l i ∧ h.IsTuple l items) where
  live := fun _ _ st => let ⟨o, ho, _⟩ := st.1; ⟨o, ho⟩
  frame := fun _ _ _ st hk => ⟨st.1.at fun o e => hk it (by simp) o e, let ⟨o, ho, r⟩ := st.2; ⟨o, hk l (by simp) o ho, r⟩⟩
  item := fun i s Q E hi st hQ => by
    refine nextOf_tup_item st.1 st.2 (x := items[i]) (by simp [hi]) fun h' hit' hs' => ?_
    exact hQ _ h' s.toks (by simp [hi]) ⟨hit', st.2.extBut hs'.extBut hne⟩ hs'
  done := fun s Q E st hE => nextOf_tup_end hh st.1 st.2 (by simp) hE
open AutoSeq1 (wpAny_loadPart') in
theorem enum_newT (l : Addr) (items : Array Value) (n : Nat) (dct : Option Addr) (sl : Array (Option Value)) :
    Meets (Builtin.«enumerate.__new__» ⟨[.type "enumerate", .ref l], []⟩) (fun _ R s => s.heap.get? l = some { cls := .type "tuple", dict := dct, data := .seq items n, slots := sl } ∧
      R (.ok (.ret (.ref (s.heap.push { cls := .type "tuple_iterator", data := .fields #[.ref l, .int 0 0] }).objs.size)))
        { s with heap := (s.heap.push { cls := .type "tuple_iterator", data := .fields #[.ref l, .int 0 0] }).push { cls := .type "enumerate", data := .fields #[.none, .bool false, .ref s.heap.objs.size, rawInt 0, .none, .none] } }) :=
  .of_wp fun prog w A R s h => by
    obtain ⟨hp, g, d, tk, os⟩ := s; obtain ⟨hl, h⟩ := h
    have hsub := sub_enumerate
    have hL : Heap.IsTuple (Shared.heap ⟨hp, g, d, tk, os⟩) l items := ⟨_, hl, rfl, n, rfl⟩
    wp_walk using wpAny_loadPart' hl
    refine wpAny_stack_any fun st => wpAny_pure ?_
    split
    · rename_i c _ _ _ _ _
      cases (c == Value.type "enumerate")
      · wp_walk using wpAny_loadPart' hl, wpAny_pyIter_tuple hL
        exact ⟨_, rfl, h⟩
      · wp_walk using wpAny_loadPart' hl, wpAny_pyIter_tuple hL
        exact ⟨_, rfl, h⟩
    · wp_walk using wpAny_loadPart' hl, wpAny_pyIter_tuple hL
      exact ⟨_, rfl, h⟩
theorem call_enumT {l : Addr} {items : Array Value} {Q : Value → Shared → Prop} (hL : s.heap.IsTuple l items)
    (h : ∀ h', IsEnum h' (s.heap.objs.size + 1) s.heap.objs.size 0 .none → h'.IsTupleIter s.heap.objs.size l 0 → h'.objs.size = s.heap.objs.size + 2 →
      (∀ b o, s.heap.get? b = some o → h'.get? b = some o) → Q (.ref (s.heap.objs.size + 1)) { s with heap := h' }) :
    wpAny (model prog w) A (call (.type "enumerate") [.ref l]) Q E s := by
  obtain ⟨⟨c, dct, dt, sl⟩, hl, hc, n, hd⟩ := hL
  replace hc : c = .type "tuple" := hc
  replace hd : dt = .seq items n := hd
  subst hc hd
  refine callType_new F.called_enumerate (by decide) (F.typeCall_enumerate_1 _) (F.newCall_enumerate_1 _) (fun obj => F.args_object_init_2 obj _) F.entry_enumerate_new (enum_newT l items n dct sl) ⟨hl, ?_⟩
  have hz : (s.heap.push { cls := .type "tuple_iterator", data := .fields #[.ref l, .int 0 0] }).objs.size = s.heap.objs.size + 1 := Heap.size_push ..
  show _ ∧ _
  rw [hz]
  have he : IsEnum ((s.heap.push { cls := .type "tuple_iterator", data := .fields #[.ref l, .int 0 0] }).push
      { cls := .type "enumerate", data := .fields #[.none, .bool false, .ref s.heap.objs.size, rawInt 0, .none, .none] }) (s.heap.objs.size + 1) s.heap.objs.size 0 .none := by
    have := Heap.get?_push_size (s.heap.push { cls := .type "tuple_iterator", data := .fields #[.ref l, .int 0 0] })
      (o := { cls := .type "enumerate", data := .fields #[.none, .bool false, .ref s.heap.objs.size, rawInt 0, .none, .none] }) rfl
    rw [hz] at this; exact this
  refine ⟨⟨_, he, rfl⟩, h _ he ⟨_, Heap.get?_push_of_some _ (Heap.get?_push_size _ rfl), rfl, rfl⟩ (by rw [Heap.size_push, hz]) fun b o x => Heap.get?_push_of_some _ (Heap.get?_push_of_some _ x)⟩
end
end L2
end
section
/-! OWN RULES K: a for over enumerate of a tuple; min of a list of ints with a default. -/
namespace L2
open PySem PySem.Spec PyProof.Rows PySem.SeqAt

/-- some untracked things turn -/
theorem Inv.turnedL {X : Cx} {pins : List (Addr × Obj)} {σ : St} {H : Hp} {s : Shared} {h' : Heap} {t' : Nat} {fp : List Addr} (I : Inv X pins σ H s) (k : ∀ b o, b ∉ fp → s.heap.get? b = some o → h'.get? b = some o) (hf : ∀ b ∈ fp, FpOk X pins H b) (there : ∀ b ∈ fp, ∃ o, h'.get? b = some o) :
    Inv X pins σ H { s with heap := h', toks := t' } := by
  have nit : ∀ b u, H b = some u → b ∉ fp := fun b u e z => by rw [(hf b z).1] at e; cases e
  refine I.step (g' := s.gens) (d' := s.drawn) (ch := fp) (fun b hb => ?_) (fun b o _ _ hc e _ => k b o hc e) (fun b o _ _ hc e _ => ⟨o.slots, k b o hc e⟩) (fun _ _ _ _ n => n)
    (fun b o hc e => ⟨o, k b o hc e⟩) (fun _ _ e => e) (fun _ _ _ e => e) (fun b ps e => ⟨#[], by rw [e]; simp⟩) (fun m hm => ?_) (fun b u e => ?_) I.bare
  · obtain ⟨f0, f1, f2, f3, f4, f5⟩ := hf b hb
    exact ⟨f3, f1, f4, f5⟩
  · obtain ⟨o, es, ep, ho, r⟩ := hm
    exact ⟨o, es, ep, k _ o (fun z => (hf _ z).2.1 rfl) ho, r⟩
  · refine (I.hok b u e).stay (fun c v hc q => k c v ?_ q) (fun _ q => q) fun _ _ q => q
    rcases hc with z | z
    · rw [z]; exact nit b u e
    · exact nit c _ z
/-- enumerate of the tuple at a: at each turn a new pair -/
def Ite (K : PySem.W.Frag) (a : Addr) : It :=
  ⟨fun i H => ∃ xs x, SqT K H a xs ∧ xs[i]? = some x, fun i H x H' => ∃ T y, H T = none ∧ H' = upd H T (.tup [.int i, y]) ∧ x = .ref T ∧ ∀ xs, SqT K H a xs → xs[i]? = some y, fun i H => ∃ xs, SqT K H a xs ∧ xs.length ≤ i⟩
theorem turn_enumT {P : Program} {w : World} {K : PySem.W.Frag} {elts : List Expr} {k : Nat} {tpos : Pos} (a it e : Addr) (hei : e ≠ it) : Turn P w K (.Tuple elts k tpos) (Ite K a) [e, it] e (fun i h => (∃ old, IsEnum h e it i old) ∧ h.IsTupleIter it a i) where
  mem := by simp
  obj := fun i h st b hb => by
    rcases List.mem_cons.mp hb with rfl | hb
    · obtain ⟨⟨old, q⟩, _⟩ := st
      exact ⟨_, q, fun v z => by
        have z' : Data.fields _ = Data.cell v := z
        cases z'⟩
    · have e' := List.mem_singleton.mp hb
      subst e'
      obtain ⟨_, o, q, c, d⟩ := st
      exact ⟨o, q, fun v z => by rw [d] at z; cases z⟩
  keep := fun i h h' st k => by
    obtain ⟨⟨old, q⟩, t⟩ := st
    exact ⟨⟨old, k e (by simp) _ q⟩, t.at fun o z => k it (by simp) o z⟩
  item := by
    intro X hP hw hK hc i pins s σ H E I hf st hg
    subst hP hw hK
    obtain ⟨xs, x, hq, hx⟩ := hg
    obtain ⟨its, rv, p, hz⟩ := I.tuple hq
    obtain ⟨u, hu, ru⟩ := rv.get hx
    obtain ⟨⟨old, he⟩, hit⟩ := st
    obtain ⟨f0, f1, f2, f3, f4, f5⟩ := hf e (by simp)
    obtain ⟨g0, g1, g2, g3, g4, g5⟩ := hf it (by simp)
    have pt : s.heap.IsTuple a its.toArray := p
    obtain ⟨oe, hoe, _⟩ := id hit
    have hal : a ≠ it := fun z => by
      subst z
      obtain ⟨o1, q1, c1, _⟩ := pt
      obtain ⟨o2, q2, c2, _⟩ := hit
      rw [q1] at q2
      cases q2
      rw [c1] at c2
      exact absurd c2 (by decide)
    have hae : a ≠ e := fun z => by
      subst z
      obtain ⟨o1, q1, c1, _⟩ := pt
      rw [show s.heap.get? a = _ from he] at q1
      cases q1
      have c2 : Value.type "enumerate" = Value.type "tuple" := c1
      exact absurd c2 (by decide)
    have hef : e ∉ [it, a] := fun m => by
      rcases List.mem_cons.mp m with z | m
      · exact hei z
      · exact hae (List.mem_singleton.mp m).symm
    have hi : i < its.toArray.size := by
      have := (List.getElem?_eq_some_iff.mp hu).1
      simpa using this
    refine wpAny_pyNext_enum_itemD (draws_tup (A := X.A.in1) (I.ok.hd hc) it a hal its.toArray) he ⟨hit, pt⟩ hi hei hef fun y h' tk hy ho hst hT hsz hk => ?_
    have ey : y = u := by
      have : its.toArray[i]? = some u := by simpa using hu
      rw [this] at hy
      exact (Option.some.inj hy).symm
    subst ey
    have fr : H s.heap.objs.size = none := I.hok.fresh (Nat.le_refl _)
    refine ⟨_, rfl, ?_⟩
    refine wpAny_letOwnedTupleGo_enum (s := { s with heap := h', toks := tk + 1 }) ho fun h2 he2 sb => ?_
    have hlt : e < s.heap.objs.size := Heap.lt_size he
    have hlt2 : it < s.heap.objs.size := Heap.lt_size hoe
    -- the iterator's own steps
    have hT2 : h2.get? s.heap.objs.size = some { cls := .type "tuple", data := .seq #[.int i tk, y] } := (sb.2 _ (Nat.ne_of_gt hlt)).trans hT
    have hk2 : ∀ b o, b ≠ e → b ≠ it → s.heap.get? b = some o → h2.get? b = some o := fun b o z1 z2 q => (sb.2 b z1).trans (hk b o z1 z2 q)
    have it2 : h2.IsTupleIter it a (i + 1) := hst.1.at fun o z => (sb.2 it (Ne.symm hei)).trans z
    refine ⟨.ref s.heap.objs.size, upd H s.heap.objs.size (.tup [.int i, x]), ?_, rfl, ⟨_, x, fr, rfl, rfl, fun ys hy => by rw [I.tuple_inj hy hq]; exact hx⟩, ⟨⟨_, he2⟩, it2⟩, fun b hb => ?_⟩
    · have I1 : Inv X pins σ H { s with heap := h2, toks := tk + 1 } := I.turnedL (fp := [e, it]) (fun b o hb q => hk2 b o (fun z => hb (by simp [z])) (fun z => hb (by simp [z])) q) hf fun b hb => by
        rcases List.mem_cons.mp hb with rfl | hb
        · exact ⟨_, he2⟩
        · have e' := List.mem_singleton.mp hb
          subst e'
          obtain ⟨o, q, _⟩ := it2
          exact ⟨o, q⟩
      have ff := I.fpOk (b := s.heap.objs.size) (Nat.le_refl _) fr
      refine I1.track fr ff.2.2.2.1 ff.2.1 ff.2.2.2.2.1 ff.2.2.2.2.2 ⟨by show 2 ≤ sizeLine; decide, [.int i tk, y], .cons ⟨tk, rfl⟩ (.cons ru .nil), ⟨_, hT2, rfl, _, rfl⟩⟩
    · have hb' : b < s.heap.objs.size := by
        rcases List.mem_cons.mp hb with rfl | hb
        · exact hlt
        · have e' := List.mem_singleton.mp hb
          subst e'
          exact hlt2
      rw [upd_ne (Nat.ne_of_lt hb')]
      exact (hf b hb).1
  done := by
    intro X hP hw hK hc i pins s σ H E I hf st hg
    subst hP hw hK
    obtain ⟨xs, hq, hx⟩ := hg
    obtain ⟨its, rv, p, hz⟩ := I.tuple hq
    obtain ⟨⟨old, he⟩, hit⟩ := st
    have pt : s.heap.IsTuple a its.toArray := p
    have hl := rv.length
    unfold pyNext
    have hT : s.TypeIs (.ref e) "enumerate" := ⟨_, he, rfl⟩
    refine wpAny_bind (wpAny_attempt (wpAny_callSpecial?_slot (name := Str.ofString "__next__") hT F.slot_enumerate_next (wpAny_call_entry F.slot_enumerate_next hT F.entry_enumerate_next ?_ (F.args_enumerate_next_1 _))))
    show wpAny _ _ (field (.ref e) 2 >>= _) _ _ _
    refine wpAny_bind (wpAny_field he rfl (x := .ref it) rfl ?_)
    refine wpAny_bind (nextOf_tup_end (A := X.A.in1) (I.ok.hd hc) hit pt (by simp; omega) fun h' ex hb hx' => ?_)
    obtain ⟨o, ho, hcl⟩ := hx'
    refine wpAny_bind (wpAny_isInstance (T := "StopIteration") (b := true) ⟨o, ho, hcl⟩ isSubtype_stop ?_)
    refine wpAny_pure ⟨rfl, ?_⟩
    obtain ⟨g0, g1, g2, g3, g4, g5⟩ := hf it (by simp)
    exact I.turned (t' := s.toks) (fun b o hb' q => hb b o hb' q) g0 g1 g3 g4 g5
  self := fun _ _ _ _ _ st h => by
    obtain ⟨⟨old, he⟩, _⟩ := st
    exact wpAny_pyIter_enum he h
section
variable {X : Cx}
def iEnumT (K : PySem.W.Frag) (ta : TA) : TI := fun σ H R => ta σ H fun vs H1 => ∃ a, vs = [.ref a] ∧ (∃ xs, SqT K H1 a xs) ∧ R (Ite K a) H1
theorem pi_enumT {a : Expr} {ta : TA} {p pos : Pos} {elts : List Expr} {k : Nat} {tpos : Pos} (hg : Gl X "enumerate") (hm : X.mg "enumerate" = none) (ha : PA X [a] ta) (hs : starEach [a] X.env = [(false, eval a X.env)] := by rfl) : PI X (.Tuple elts k tpos) (.Call (.Name "enumerate" p) [a] [] pos) (iEnumT X.K ta) := by
  intro pins s σ H R I h
  refine Call_ (ld_blt I hg hm boot_enumerate (PyProof.Rows.callWith_type1 (thn (ha pos pins s σ H _ I h) fun us s1 ⟨vs, H1, I1, r1, q1⟩ => ?_) hs rfl))
  obtain ⟨b, e, ⟨xs, hq⟩, q⟩ := q1
  subst e
  obtain ⟨u, rfl, ru⟩ := r1.one
  cases ru
  obtain ⟨its, rv, pt, hz⟩ := I1.tuple hq
  refine call_enumT (show s1.heap.IsTuple b its.toArray from pt) fun h' he hit hsz hk => ?_
  refine wpAny_pyIter_enum (s := { s1 with heap := h' }) he ?_
  refine ⟨s1.heap.objs.size + 1, [s1.heap.objs.size + 1, s1.heap.objs.size], _, _, H1, rfl, I1.kept (t' := s1.toks) hk, turn_enumT b _ _ (Nat.succ_ne_self _), ⟨⟨_, he⟩, hit⟩, fun c hc => ?_, q⟩
  rcases List.mem_cons.mp hc with rfl | hc
  · exact I1.fpOk (Nat.le_succ _) (I1.hok.fresh (Nat.le_succ _))
  · have e' := List.mem_singleton.mp hc
    subst e'
    exact I1.fpOk (Nat.le_refl _) (I1.hok.fresh (Nat.le_refl _))
end
theorem for_enumT {K : PySem.W.Frag} {a : Addr} {xs : List V} {g : TG} {tb : TS} {D : Ends} {σ : St} {H : Hp} (Pv : Nat → St → Hp → Prop) (h0 : Pv 0 σ H) (hl : ∀ i σ H, i ≤ xs.length → Pv i σ H → SqT K H a xs)
    (hs : ∀ i x σ H T, xs[i]? = some x → Pv i σ H → H T = none → g (.ref T) σ (upd H T (.tup [.int i, x])) fun σ2 H2 => tb { D with nx := Pv (i + 1), ct := Pv (i + 1), bk := D.nx } σ2 H2) (hd : ∀ σ H, Pv xs.length σ H → D.nx σ H) :
    ∃ W : Nat → Nat → St → Hp → Prop, (∃ m, W 0 m σ H) ∧ ∀ i m σ H, W i m σ H →
      ((Ite K a).stop i H ∧ D.nx σ H) ∨ ((Ite K a).go i H ∧ ∃ N : St → Hp → Prop, (∀ σ' H', N σ' H' → ∃ m', m' < m ∧ W (i + 1) m' σ' H') ∧ ∀ x H', (Ite K a).yld i H x H' → g x σ H' fun σ2 H2 => tb { D with nx := N, ct := N, bk := D.nx } σ2 H2) := by
  refine ⟨fun i m σ H => m = xs.length - i ∧ i ≤ xs.length ∧ Pv i σ H, ⟨xs.length, by simp, Nat.zero_le _, h0⟩, ?_⟩
  rintro i m σ H ⟨rfl, hi, p⟩
  have q := hl i σ H hi p
  by_cases hlt : i < xs.length
  · refine .inr ⟨⟨xs, xs[i], q, by simp [hlt]⟩, Pv (i + 1), fun σ' H' p' => ⟨xs.length - (i + 1), by omega, rfl, hlt, p'⟩, fun x H' y => ?_⟩
    obtain ⟨T, z, nT, e, e2, y⟩ := y
    subst e e2
    exact hs i z σ _ T (y xs q) p nT
  · have e : i = xs.length := by omega
    subst e
    exact .inl ⟨⟨xs, q, Nat.le_refl _⟩, hd σ H p⟩

/-! ### min(xs, default=None) -/
theorem tree_kw {prog : Program} {w : World} {A : Around} {E : Value → Shared → Prop} {s : Shared} {id : String} {b : Builtin} {args : List Value} {kw : List (Str × Value)} {Q : Value → Shared → Prop} (hk : builtinKind id = none) (hp : plainId id = true) (hb : entryFor table id = some b) (ha : argsOk id ⟨args, kw⟩)
    (hc : wpAny (model prog w) A.in1 (b ⟨args, kw⟩) (fun fin s' => match fin with
      | .done f => (match (Except.ok f : Result) with | .ok (.ret v) => Q v s' | .ok _ => False | .error e => E e s')
      | .again c' => c'.quiet = true ∧ codeAny (model prog w) A c' (fun r s' => match r with | .ok (.ret v) => Q v s' | .ok _ => False | .error e => E e s') s') E s) :
    wpAny (model prog w) A (call (.builtin id) args kw) Q E s := by
  refine wpAny_call (codeAny_call_builtin hp hb ?_)
  simp only [checkBuiltinCall, hk]
  cases hsig : Manifest.signature? id with
  | none => exact wpAny_pure hc
  | some sig =>
    have h2 : Bind.checkArgs id sig ⟨args, kw⟩ = pure () := by simpa only [argsOk, hsig] using ha
    simp only [h2]
    exact wpAny_pure hc
theorem args_minD (a v : Value) : argsOk "min" ⟨[a], [(Str.ofString "default", v)]⟩ := by unfold argsOk; kernel_rfl
section
variable {prog : Program} {w : World} {A : Around} {R : Result → Shared → Prop} {I S : Addr} {fp wr : List Addr} {n : Nat} {P : Nat → Value → Prop} {St : Nat → Heap → Prop} {bt : Nat → Nat → Bool} {Gd : Heap → Prop} {kw : List (Str × Value)}
theorem min_loopK (W : Walks prog w A.in1 I fp wr n P St) (hcmp : CmpG prog w A.in1 P Gd bt) (stay : ∀ h h' : Heap, Gd h → (∀ b o, b ∉ wr → b ≠ S → h.get? b = some o → h'.get? b = some o) → Gd h') (hSf : S ∉ fp) :
    ∀ (k j : Nat) (s : Shared) (vb : Value) (c : Nat), n - (j + 1) = k → j + 1 ≤ n → St (j + 1) s.heap → Gd s.heap → P (argBest bt j) vb → s.heap.get? S = some { cls := .type "list", data := .seq #[vb, vb] c } →
    (∀ v h' tk, P (argBest bt (n - 1)) v → (∀ b o, b ∉ wr → b ≠ S → s.heap.get? b = some o → h'.get? b = some o) → R (.ok (.ret v)) { s with heap := h', toks := tk }) →
    codeAny (model prog w) A (.builtin "min.loop" ⟨[.ref I, .none, .ref S], kw⟩) R s := by
  have nw : S ∉ wr := fun z => hSf (W.sub _ z)
  have nm : (toString "min" ++ toString ".loop" : String) = "min.loop" := by decide
  have off : ∀ (h : Heap) (g : Obj → Obj) (b : Addr) (o : Obj), b ≠ S → h.get? b = some o → (h.update S g).get? b = some o := fun h g b o z e => (Heap.get?_update_other _ _ (Ne.symm z)).trans e
  intro k
  induction k with
  | zero =>
    intro j s vb c ek ej hst hg pb hS fin
    have en : j + 1 = n := by omega
    refine codeAny_builtin F.entry_min_loop ?_
    rw [Around.under_plainId F.plain_min_loop _]
    show wpAny _ A.in1 (seqItems? (.ref S) >>= _) _ _ s
    refine wpAny_bind (wpAny_seqItems hS rfl ?_)
    show wpAny _ A.in1 (tryCatch (pyNext (.ref I)) _ >>= _) _ _ s
    refine wpAny_bind (wpAny_tryCatch (W.done s _ _ (en ▸ hst) fun h1 tk1 k1 => ?_))
    have hS1 := k1 S _ nw hS
    show wpAny _ A.in1 (updateSeq S (fun _ => #[]) >>= _) _ _ _
    refine wpAny_bind ?_
    refine wpAny_updateSeq hS1 rfl (wpAny_bind (wpAny_letGo (wpAny_pure ?_)))
    exact fin vb _ tk1 (by rw [← en]; exact pb) fun b o z1 z2 e => off _ _ b o z2 (k1 b o z1 e)
  | succ k ih =>
    intro j s vb c ek ej hst hg pb hS fin
    have lt : j + 1 < n := by omega
    refine codeAny_builtin F.entry_min_loop ?_
    rw [Around.under_plainId F.plain_min_loop _]
    show wpAny _ A.in1 (seqItems? (.ref S) >>= _) _ _ s
    refine wpAny_bind (wpAny_seqItems hS rfl ?_)
    show wpAny _ A.in1 (tryCatch (pyNext (.ref I)) _ >>= _) _ _ s
    refine wpAny_bind (wpAny_tryCatch (W.item (j + 1) s _ _ lt hst fun v h1 tk1 pv st1 k1 => ?_))
    have hS1 := k1 S _ nw hS
    have hg1 : Gd h1 := stay _ _ hg fun b o z1 _ e => k1 b o z1 e
    show wpAny _ A.in1 (tryCatch (holding [v, v] (richCompare .Lt v vb >>= _)) _ >>= _) _ _ _
    refine wpAny_bind (wpAny_tryCatch (wpAny_holding (wpAny_bind (hcmp (j + 1) (argBest bt j) v vb _ _ _ hg1 pv pb ?_))))
    refine wpAny_bind (wpAny_holding (wpAny_truthy_bool ?_))
    refine wpAny_bind (wpAny_letGo (wpAny_pure ?_))
    cases hb : bt (j + 1) (argBest bt j) with
    | true =>
      simp only [if_true]
      refine wpAny_bind ?_
      refine wpAny_updateSeq hS1 rfl (wpAny_bind (wpAny_letGo ?_))
      rw [nm]
      refine wpAny_pure ⟨plainId_quiet F.plain_min_loop _, ih (j + 1) _ v _ (by omega) lt (W.frame _ _ _ st1 fun b z o e => off _ _ b o (fun q => hSf (q ▸ z)) e) (stay _ _ hg1 fun b o _ z e => off _ _ b o z e) (by simp only [argBest, hb, if_true]; exact pv) (Heap.get?_update_self _ hS1 rfl) fun v' h2 tk2 p2 k2 => ?_⟩
      exact fin v' h2 tk2 p2 fun b o z1 z2 e => k2 b o z1 z2 (off _ _ b o z2 (k1 b o z1 e))
    | false =>
      simp only [Bool.false_eq_true, if_false]
      refine wpAny_bind (wpAny_letGo ?_)
      rw [nm]
      refine wpAny_pure ⟨plainId_quiet F.plain_min_loop _, ih (j + 1) _ vb c (by omega) lt st1 hg1 (by simp only [argBest, hb, Bool.false_eq_true, if_false]; exact pb) hS1 fun v' h2 tk2 p2 k2 => ?_⟩
      exact fin v' h2 tk2 p2 fun b o z1 z2 e => k2 b o z1 z2 (k1 b o z1 e)
end
section
variable {prog : Program} {w : World} {A : Around} {E : Value → Shared → Prop} {s : Shared}
theorem min_listK {l : Addr} {its : Array Value} {Gd : Heap → Prop} {bt : Nat → Nat → Bool} {Q : Value → Shared → Prop} (hh : A.handled = none) (hl : s.heap.IsList l its) (hn : 0 < its.size)
    (hcmp : CmpG prog w A.in1 (fun i v => its[i]? = some v) Gd bt) (hg : Gd s.heap) (stay : ∀ h h' : Heap, Gd h → (∀ b o, b < s.heap.objs.size → h.get? b = some o → h'.get? b = some o) → Gd h')
    (hQ : ∀ v h' tk, its[argBest bt (its.size - 1)]? = some v → (∀ b o, s.heap.get? b = some o → h'.get? b = some o) → Q v { s with heap := h', toks := tk }) :
    wpAny (model prog w) A (call (.builtin "min") [.ref l] [(Str.ofString "default", .none)]) Q E s := by
  have nm : (toString "min" ++ toString ".loop" : String) = "min.loop" := by decide
  have hlt : l < s.heap.objs.size := by obtain ⟨_, e, _⟩ := hl; exact Heap.lt_size e
  refine tree_kw F.kind_min F.plain_min F.entry_min (args_minD _ _) ?_
  show wpAny _ A.in1 (Builtin.Builtins.bindParams "min" ["key", "default"] 0 ⟨[], [(Str.ofString "default", .none)]⟩ >>= _) _ _ s
  refine wpAny_bind (wpAny_of_eq (show Builtin.Builtins.bindParams "min" ["key", "default"] 0 ⟨[], [(Str.ofString "default", .none)]⟩ = pure [none, some .none] from rfl) ?_)
  refine wpAny_bind (wpAny_pure ?_)
  refine wpAny_bind (wpAny_pyIter_list hl ?_)
  refine wpAny_bind (wpAny_newObj_type ?_)
  rw [nm]
  refine wpAny_pure ⟨plainId_quiet F.plain_min_loop _, ?_⟩
  -- the first item
  generalize hh1 : s.heap.push { cls := .type "list_iterator", data := .fields #[.ref l, .int 0 0] } = h1
  have sz1 : h1.objs.size = s.heap.objs.size + 1 := by rw [← hh1, Heap.size_push]
  have W := Walks.list (prog := prog) (w := w) (A := A.in1) hh s.heap.objs.size l (Nat.ne_of_lt hlt) its
  have hSf : h1.objs.size ∉ [s.heap.objs.size, l] := by
    intro m
    rcases List.mem_cons.mp m with z | m
    · omega
    · have z : h1.objs.size = l := List.mem_singleton.mp m
      have q : l < h1.objs.size := by rw [sz1]; exact Nat.lt_succ_of_lt hlt
      rw [z] at q
      exact Nat.lt_irrefl _ q
  have nw : h1.objs.size ∉ [s.heap.objs.size] := fun m => hSf (W.sub _ m)
  have keep0 : ∀ b o, s.heap.get? b = some o → (h1.push { cls := .type "list", data := .seq ([] : List Value).toArray }).get? b = some o := fun b o e => Heap.get?_push_of_some _ (by rw [← hh1]; exact Heap.get?_push_of_some _ e)
  have st0 : (h1.push { cls := .type "list", data := .seq ([] : List Value).toArray }).IsListIter s.heap.objs.size l 0 ∧ (h1.push { cls := .type "list", data := .seq ([] : List Value).toArray }).IsList l its := by
    refine ⟨⟨_, Heap.get?_push_of_some _ (by rw [← hh1]; exact Heap.get?_push_size _ rfl), rfl, rfl⟩, ?_⟩
    obtain ⟨o, e, r⟩ := hl
    exact ⟨o, keep0 l o e, r⟩
  have old : ∀ b, b < s.heap.objs.size → b ∉ [s.heap.objs.size] ∧ b ≠ h1.objs.size := fun b z => ⟨fun m => by have := List.mem_singleton.mp m; omega, by omega⟩
  refine codeAny_builtin F.entry_min_loop ?_
  rw [Around.under_plainId F.plain_min_loop _]
  show wpAny _ A.in1 (seqItems? (.ref h1.objs.size) >>= _) _ _ _
  refine wpAny_bind (wpAny_seqItems (Heap.get?_push_size _ rfl) rfl ?_)
  show wpAny _ A.in1 (tryCatch (pyNext (.ref s.heap.objs.size)) _ >>= _) _ _ _
  refine wpAny_bind (wpAny_tryCatch (W.item 0 _ _ _ hn st0 fun v h2 tk2 pv st2 k2 => ?_))
  have hS2 := k2 h1.objs.size _ nw (Heap.get?_push_size _ rfl)
  show wpAny _ A.in1 (updateSeq h1.objs.size (fun _ => #[v, v]) >>= _) _ _ _
  refine wpAny_bind ?_
  refine wpAny_updateSeq hS2 rfl ?_
  rw [nm]
  have off : ∀ (h : Heap) (g : Obj → Obj) (b : Addr) (o : Obj), b ≠ h1.objs.size → h.get? b = some o → (h.update h1.objs.size g).get? b = some o := fun h g b o z e => (Heap.get?_update_other _ _ (Ne.symm z)).trans e
  have stay' : ∀ h h' : Heap, Gd h → (∀ b o, b ∉ [s.heap.objs.size] → b ≠ h1.objs.size → h.get? b = some o → h'.get? b = some o) → Gd h' := fun h h' g k => stay h h' g fun b o z e => k b o (old b z).1 (old b z).2 e
  have hg2 : Gd h2 := stay _ _ hg fun b o z e => k2 b o (old b z).1 (keep0 b o e)
  refine wpAny_pure ⟨plainId_quiet F.plain_min_loop _, min_loopK (S := h1.objs.size) W hcmp stay' hSf _ 0 _ v _ rfl hn (W.frame _ _ _ st2 fun b z o e => off _ _ b o (fun q => hSf (q ▸ z)) e) (stay' _ _ hg2 fun b o _ z e => off _ _ b o z e) pv (Heap.get?_update_self _ hS2 rfl) fun v' h3 tk3 p3 k3 => ?_⟩
  exact hQ v' h3 tk3 p3 fun b o e => k3 b o (old b (Heap.lt_size e)).1 (old b (Heap.lt_size e)).2 (off _ _ b o (old b (Heap.lt_size e)).2 (k2 b o (old b (Heap.lt_size e)).1 (keep0 b o e)))
theorem min_nilK {l : Addr} {Q : Value → Shared → Prop} (hh : A.handled = none) (hl : s.heap.IsList l #[])
    (hQ : ∀ h' tk, (∀ b o, s.heap.get? b = some o → h'.get? b = some o) → Q .none { s with heap := h', toks := tk }) :
    wpAny (model prog w) A (call (.builtin "min") [.ref l] [(Str.ofString "default", .none)]) Q E s := by
  have nm : (toString "min" ++ toString ".loop" : String) = "min.loop" := by decide
  have hlt : l < s.heap.objs.size := by obtain ⟨_, e, _⟩ := hl; exact Heap.lt_size e
  refine tree_kw F.kind_min F.plain_min F.entry_min (args_minD _ _) ?_
  show wpAny _ A.in1 (Builtin.Builtins.bindParams "min" ["key", "default"] 0 ⟨[], [(Str.ofString "default", .none)]⟩ >>= _) _ _ s
  refine wpAny_bind (wpAny_of_eq (show Builtin.Builtins.bindParams "min" ["key", "default"] 0 ⟨[], [(Str.ofString "default", .none)]⟩ = pure [none, some .none] from rfl) ?_)
  refine wpAny_bind (wpAny_pure ?_)
  refine wpAny_bind (wpAny_pyIter_list hl ?_)
  refine wpAny_bind (wpAny_newObj_type ?_)
  rw [nm]
  refine wpAny_pure ⟨plainId_quiet F.plain_min_loop _, ?_⟩
  generalize hh1 : s.heap.push { cls := .type "list_iterator", data := .fields #[.ref l, .int 0 0] } = h1
  have W := Walks.list (prog := prog) (w := w) (A := A.in1) hh s.heap.objs.size l (Nat.ne_of_lt hlt) #[]
  have sz1 : h1.objs.size = s.heap.objs.size + 1 := by rw [← hh1, Heap.size_push]
  have keep0 : ∀ b o, s.heap.get? b = some o → (h1.push { cls := .type "list", data := .seq ([] : List Value).toArray }).get? b = some o := fun b o e => Heap.get?_push_of_some _ (by rw [← hh1]; exact Heap.get?_push_of_some _ e)
  have st0 : (h1.push { cls := .type "list", data := .seq ([] : List Value).toArray }).IsListIter s.heap.objs.size l 0 ∧ (h1.push { cls := .type "list", data := .seq ([] : List Value).toArray }).IsList l #[] := by
    refine ⟨⟨_, Heap.get?_push_of_some _ (by rw [← hh1]; exact Heap.get?_push_size _ rfl), rfl, rfl⟩, ?_⟩
    obtain ⟨o, e, r⟩ := hl
    exact ⟨o, keep0 l o e, r⟩
  refine codeAny_builtin F.entry_min_loop ?_
  rw [Around.under_plainId F.plain_min_loop _]
  show wpAny _ A.in1 (seqItems? (.ref h1.objs.size) >>= _) _ _ _
  refine wpAny_bind (wpAny_seqItems (Heap.get?_push_size _ rfl) rfl ?_)
  show wpAny _ A.in1 (tryCatch (pyNext (.ref s.heap.objs.size)) _ >>= _) _ _ _
  refine wpAny_bind (wpAny_tryCatch (W.done _ _ _ st0 fun h2 tk2 k2 => ?_))
  refine wpAny_bind (wpAny_rule (wpAny_pure ?_))
  exact hQ h2 tk2 fun b o e => k2 b o (fun m => Nat.lt_irrefl _ ((List.mem_singleton.mp m) ▸ Heap.lt_size e)) (keep0 b o e)
end
section
variable {X : Cx}
/-- min(xs, default=None), xs a list of ints -/
def rMinD (K : PySem.W.Frag) : V → Hp → VK → Prop := fun x H Q => ∃ a ns, x = .ref a ∧ SqL K H a (ns.map V.int) ∧ (ns = [] → Q .non H) ∧ ∀ m : Int, m ∈ ns → (∀ x ∈ ns, m ≤ x) → Q (.int m) H
theorem run_minD (hc : X.calm = true) {pins : List (Addr × Obj)} {s : Shared} {σ : L2.St} {H : Hp} {x : V} {u : Value} {Q : VK} (I : Inv X pins σ H s) (ru : RelV x u) (h : rMinD X.K x H Q) :
    wpAny (model X.prog X.w) X.A (call (.builtin "min") [u] [(Str.ofString "default", .none)]) (EP X pins σ Q) X.xe s := by
  obtain ⟨a, ns, rfl, hq, k0, k⟩ := h
  cases ru
  obtain ⟨its, rv, pl, hz⟩ := I.list hq
  have e1 := rv.length
  rw [List.length_map] at e1
  by_cases hne : ns = []
  · subst hne
    have e2 : its = [] := List.length_eq_zero_iff.mp e1.symm
    subst e2
    exact min_nilK (I.ok.hd hc) pl.isList fun h' tk kk => ⟨.non, H, I.kept kk, rfl, k0 rfl⟩
  have at_ : ∀ (i : Nat) v, its.toArray[i]? = some v → ∃ t, v = .int (ns.getD i 0) t := fun i v e => by
    have e' : its[i]? = some v := by simpa using e
    have hi : i < its.length := (List.getElem?_eq_some_iff.mp e').1
    have hi' : i < ns.length := by omega
    obtain ⟨u, hu, t, ht⟩ := rv.get (i := i) (x := V.int ns[i]) (by simp [hi'])
    rw [e'] at hu
    cases hu
    exact ⟨t, by rw [ht]; simp [List.getD, hi']⟩
  have hlen : 0 < ns.length := List.length_pos_iff.mpr hne
  refine min_listK (Gd := fun _ => True) (bt := fun i j => decide (ns.getD i 0 < ns.getD j 0)) (I.ok.hd hc) pl.isList (by simp; omega) (fun i j vi vj s' Q' E' _ hi hj q => ?_) True.intro (fun _ _ _ _ => True.intro) fun v h' tk hv kk => ?_
  · obtain ⟨t, rfl⟩ := at_ i vi hi
    obtain ⟨t', rfl⟩ := at_ j vj hj
    exact HT.rcLt_int X.A.in1 s' _ t _ t' X.prog X.w E' Q' q
  · obtain ⟨t, rfl⟩ := at_ _ v hv
    obtain ⟨b1, b2⟩ := argBest_spec (fun i => ns.getD i 0) (· ≤ ·) (fun i j => decide (ns.getD i 0 < ns.getD j 0)) (fun _ => Int.le_refl _) (fun _ _ _ => Int.le_trans) (fun i j z => Int.le_of_lt (of_decide_eq_true z)) (fun i j z => Int.not_lt.mp (of_decide_eq_false z)) (its.toArray.size - 1)
    have hb : argBest (fun i j => decide (ns.getD i 0 < ns.getD j 0)) (its.toArray.size - 1) < ns.length := by
      have : its.toArray.size = ns.length := by simp; omega
      omega
    refine ⟨.int _, H, I.kept kk, ⟨t, rfl⟩, k _ ?_ fun x hx => ?_⟩
    · rw [getD_at hb]
      exact List.getElem_mem hb
    · obtain ⟨i, hi, rfl⟩ := List.mem_iff_getElem.mp hx
      have z := b2 i (by have : its.toArray.size = ns.length := by simp; omega
                         omega)
      have z' : ns.getD (argBest (fun i j => decide (ns.getD i 0 < ns.getD j 0)) (its.toArray.size - 1)) 0 ≤ ns.getD i 0 := z
      rw [getD_at hi] at z'
      exact z'
/-- the call's own form -/
def tMinD (K : PySem.W.Frag) (t : TA) : TE := fun σ H Q => t σ H fun vs H1 => ∃ x, vs = [x] ∧ rMinD K x H1 Q
theorem pe_minD {e : Expr} {t : TA} {p pos kp cp : Pos} {j : Nat} (hc : X.calm = true) (hg : Gl X "min") (hm : X.mg "min" = none) (ha : PA X [e] t) (hs : starEach [e] X.env = [(false, eval e X.env)] := by rfl) :
    PE X (.Call (.Name "min" p) [e] [⟨some "default", .Constant .none j cp, kp⟩] pos) (tMinD X.K t) := by
  intro pins s σ H Q I h
  refine wpAny_Call_Name_kw (ld_blt I hg hm boot_min ?_)
  refine callWith_kw (thn (ha pos pins s σ H _ I h) fun us s1 ⟨vs, H1, I1, r1, x, e1, q1⟩ => ?_) (by rw [hs]; rfl) (by rw [hs]; rfl)
  subst e1
  obtain ⟨u, rfl, ru⟩ := r1.one
  refine thn ((pk_cons (nm := some "default") (kpos := kp) (pe_non (j := j) (pos := cp)) pk_nil) pos pins s1 σ H1 (fun zs H2 => zs = [.non] ∧ H2 = H1) I1 ⟨rfl, rfl⟩) fun ws s2 ⟨zs, H2, I2, rz, ez, e2⟩ => ?_
  subst ez e2
  obtain ⟨v, rfl, rv⟩ := rz.one
  cases rv
  exact run_minD hc I2 ru q1
end
end L2
end
section
/-! OWN RULES L: what the text's classes are, from what can be asked of them. -/
namespace L2
open PySem PySem.Spec PyProof.Rows
theorem cls_of_mro {K : PySem.W.Frag} {C : Addr} {v : Value} {b : Bool} (h : PySem.W.mroIn K C v = some b) : (PySem.W.clsIn K C).isSome = true := by
  unfold PySem.W.mroIn at h
  cases e : PySem.W.clsIn K C with
  | none => rw [e] at h; cases h
  | some cd => rfl
theorem kit_same {K : PySem.W.Frag} {t : Value} : PySem.W.kitOne K t t = some true := by
  unfold PySem.W.kitOne
  rw [if_pos (by simp)]
theorem kit_ref {K : PySem.W.Frag} {t : Value} {C : Addr} {b : Bool} (h1 : PySem.W.typeIn K (.ref C) = some (.type "type")) (h2 : (PySem.W.clsIn K C).isSome = true) (h : PySem.W.subIn K t (.ref C) = some b) (hb : b = true ∨ (t == .ref C) = false := by first | exact .inl rfl | exact .inr rfl) : PySem.W.kitOne K t (.ref C) = some b := by
  unfold PySem.W.kitOne
  by_cases e : (t == Value.ref C) = true
  · rw [if_pos e]
    rcases hb with hb | hb
    · rw [hb]
    · rw [hb] at e; cases e
  · rw [if_neg e]
    show (if ((PySem.W.clsIn K C).isSome && PySem.W.typeIn K (.ref C) == some (.type "type")) = true then PySem.W.subIn K t (.ref C) else none) = _
    rw [h1, h2]
    exact h
theorem kit_refF {K : PySem.W.Frag} {D C : Addr} (h1 : PySem.W.typeIn K (.ref C) = some (.type "type")) (h2 : (PySem.W.clsIn K C).isSome = true) (h : PySem.W.subIn K (.ref D) (.ref C) = some false) (h3 : PySem.W.subIn K (.ref D) (.ref D) = some true) : PySem.W.kitOne K (.ref D) (.ref C) = some false := by
  refine kit_ref h1 h2 h (.inr ?_)
  have ne : D ≠ C := fun z => by
    subst z
    rw [h] at h3
    cases h3
  exact beq_eq_false_iff_ne.mpr fun z => ne (by injection z)
theorem kit_ty {K : PySem.W.Frag} {t : Value} {T : String} {b : Bool} (h1 : PySem.W.kitMeta T = true) (h : PySem.W.subIn K t (.type T) = some b) (hb : b = true ∨ (t == .type T) = false := by first | exact .inl rfl | exact .inr rfl) : PySem.W.kitOne K t (.type T) = some b := by
  unfold PySem.W.kitOne
  by_cases e : (t == Value.type T) = true
  · rw [if_pos e]
    rcases hb with hb | hb
    · rw [hb]
    · rw [hb] at e; cases e
  · rw [if_neg e]
    show (if PySem.W.kitMeta T = true then PySem.W.subIn K t (.type T) else none) = _
    rw [if_pos h1]
    exact h
/-- what isinstance wants of an own class -/
structure TyIns (K : PySem.W.Frag) (C : Addr) : Prop where
  ha : PySem.W.findIn K (.ref C) "__class__" = some (some (.builtin "object.__class__"))
  hn : PySem.W.specialIn K (.builtin "object.__class__") "__get__" = some (some (.builtin "getset_descriptor.__get__"))
  htk : PySem.W.takesIn K (.builtin "object.__class__") = some true
  hm : PySem.W.mroIn K C (.type "object") = some true
theorem TyIns.ty {K : PySem.W.Frag} {C a dx : Addr} {H : Hp} {fs : List (Str × V)} (t : TyIns K C) (cl : Cls K C) (e : H a = some (.ins C dx fs)) : TyOf K H (.ref a) (.ref C) := .ins e cl t.ha t.hn t.htk t.hm
end L2
end
section
/-! OWN RULES M: a list comprehension over a list, a tuple, a range, by what holds between two turns. -/
namespace L2
open PySem PySem.Spec PyProof.Rows
/-- what tComp asks of the walk J -/
def CompAsk (J : It) (fv : List (Option Nat)) (jx : Nat) (tc : TT) (te : TE) (σ : St) (H1 : Hp) (Q : VK) : Prop :=
  ∃ W : Nat → Nat → List V → Hp → Prop, (∃ m, W 0 m [] H1) ∧ ∀ i m ys H, W i m ys H → ys.length < sizeLine ∧
  ((J.stop i H ∧ ∀ acc, H acc = none → Q (.ref acc) (upd H acc (.lst ys))) ∨ (J.go i H ∧ ∀ v H', J.yld i H v H' → tc ((blk fv σ).set jx (some v)) H' fun b H2 => if b = true then te ((blk fv σ).set jx (some v)) H2 fun y H3 => ∃ m', m' < m ∧ W (i + 1) m' (ys ++ [y]) H3 else ∃ m', m' < m ∧ W (i + 1) m' ys H2))
/-- both ends are as wished: what a test or a value tells may be weakened -/
def MonoT (tc : TT) : Prop := ∀ σ H Q Q', (∀ b H', Q b H' → Q' b H') → tc σ H Q → tc σ H Q'
def MonoE (te : TE) : Prop := ∀ σ H Q Q', (∀ v H', Q v H' → Q' v H') → te σ H Q → te σ H Q'
theorem comp_list {K : PySem.W.Frag} {a : Addr} {xs : List V} {fv : List (Option Nat)} {jx : Nat} {te : TE} {σ : St} {H : Hp} {Q : VK} (Pv : Nat → List V → Hp → Prop) (h0 : Pv 0 [] H)
    (hl : ∀ i ys H, i ≤ xs.length → Pv i ys H → SqL K H a xs ∧ ys.length < sizeLine)
    (hs : ∀ i x ys H (Q' : VK), xs[i]? = some x → Pv i ys H → (∀ y H3, Pv (i + 1) (ys ++ [y]) H3 → Q' y H3) → te ((blk fv σ).set jx (some x)) H Q')
    (hd : ∀ ys H, Pv xs.length ys H → ∀ acc, H acc = none → Q (.ref acc) (upd H acc (.lst ys))) : CompAsk (Itl K a) fv jx (fun _ H Q => Q true H) te σ H Q := by
  refine ⟨fun i m ys H => m = xs.length - i ∧ i ≤ xs.length ∧ Pv i ys H, ⟨xs.length, by simp, Nat.zero_le _, h0⟩, ?_⟩
  rintro i m ys H ⟨rfl, hi, p⟩
  obtain ⟨q, hz⟩ := hl i ys H hi p
  refine ⟨hz, ?_⟩
  by_cases hlt : i < xs.length
  · refine .inr ⟨⟨xs, xs[i], q, by simp [hlt]⟩, fun x H' y => ?_⟩
    obtain ⟨e, y⟩ := y
    subst e
    refine iteT ?_
    exact hs i x ys _ _ (y xs q) p fun y H3 p3 => ⟨xs.length - (i + 1), by omega, rfl, hlt, p3⟩
  · have e : i = xs.length := by omega
    subst e
    exact .inl ⟨⟨xs, q, Nat.le_refl _⟩, hd ys H p⟩
def tCompA (wi : TI) (fv : List (Option Nat)) (jx : Nat) (tc : TT) (te : TE) : TE := fun σ H Q => wi σ H fun J H1 => CompAsk J fv jx tc te σ H1 Q
section
variable {X : Cx} {scope : Scope} {cl : List (Str × Addr)} {NB : List Str} {fv : List (Option Nat)} {x y : Str} {px py pos spos : Pos} {elt iter : Expr} {ifs : List Expr} {jx iy : Nat} {wi : TI} {tc : TT} {te : TE}
theorem pe_compA (hc : X.calm = true) (O : CompOk X scope cl NB fv) (hi : PI X (.Name x px) iter wi) (hx : scope.names.lookup x = some .local) (hjx : NB[jx]? = some x) (hfx : fv[jx]? = some none) (hC : ∀ s0 H0 ex, PIfs (compCx X NB scope cl s0 H0 ex) ifs tc)
    (hE : ∀ s0 H0 ex, PE (compCx X NB scope cl s0 H0 ex) elt te) (hs : ∀ x, foldedSetIterable iter X.env x = pure x := by intro _; rfl) : PE X (.ListComp elt [⟨.Name x px, iter, ifs, 0⟩] scope pos) (tCompA wi fv jx tc te) :=
  pe_comp hc O hi hx hjx hfx hC hE hs
end
/-- an int that the module's top has written -/
theorem pe_gint {X : Cx} {x : Str} {i : Int} {t : Tok} {pos : Pos} (hm : X.mg x = some (.int i t)) (hg : Gl X x := by rfl) (hd : (x == ("__debug__" : Str)) = false := by decide) : PE X (.Name x pos) (tC (.int i)) := pe_glob (v := .int i) hg hm ⟨t, rfl⟩ hd
/-- a class or def of the text, a built-in type: as a value -/
theorem pe_gref {X : Cx} {x : Str} {C : Addr} {pos : Pos} (hm : X.mg x = some (.ref C)) (hg : Gl X x := by rfl) (hd : (x == ("__debug__" : Str)) = false := by decide) : PE X (.Name x pos) (tC (.ref C)) := pe_glob (v := .ref C) hg hm rfl hd
theorem pe_bty {X : Cx} {x : Str} {T : String} {pos : Pos} (hm : X.mg x = none) (hv : bootBuiltins x = some (.type T)) (hg : Gl X x := by rfl) (hn : x ≠ "__name__" := by decide) (hd : (x == ("__debug__" : Str)) = false := by decide) : PE X (.Name x pos) (tC (.ty T)) := pe_bltn (v := .ty T) hg hm hv rfl hn hd
end L2
end
section
/-! OWN RULES N: a body statement by statement: what is asked of the rest is asked when it comes. -/
namespace L2
open PySem PySem.Spec PyProof.Rows
/-- the rest of a block, as it stands -/
structure TSem (X : Cx) (sts : List Stmt) (D : Ends) (σ : St) (H : Hp) : Prop where
  run : ∀ (pins : List (Addr × Obj)) (s : Shared), Inv X pins σ H s → wpAny (model X.prog X.w) X.A (execs sts X.env) (SP X pins D) X.xe s
abbrev tSem (X : Cx) (sts : List Stmt) : TS := TSem X sts
theorem pss_sem {X : Cx} {sts : List Stmt} : PSs X sts (tSem X sts) := fun pins s σ H D I h => h.run pins s I
theorem go_cons {X : Cx} {st : Stmt} {rest : List Stmt} {t : TS} {D : Ends} {σ : St} {H : Hp} (h1 : PS X st t) (h : t { D with nx := tSem X rest D } σ H) : TSem X (st :: rest) D σ H := ⟨fun pins s I => pss_cons h1 pss_sem pins s σ H D I h⟩
theorem go_one {X : Cx} {st : Stmt} {t : TS} {D : Ends} {σ : St} {H : Hp} (h1 : PS X st t) (h : t D σ H) : TSem X [st] D σ H := ⟨fun pins s I => pss_one h1 pins s σ H D I h⟩
/-! ### written items, all at once -/
def litV : Expr → Option V
  | .Constant (.int i) _ _ => some (.int i)
  | .Constant (.str x) _ _ => some (.str x)
  | .Constant .none _ _ => some .non
  | .Constant (.bool b) _ _ => some (.bl b)
  | .UnaryOp .USub (.Constant (.int i) _ _) _ => some (.int (-i))
  | _ => none
def litVs : List Expr → Option (List V)
  | [] => some []
  | e :: es => (litV e).bind fun v => (litVs es).map fun vs => v :: vs
theorem lit_ok {X : Cx} {e : Expr} {v : V} (h : litV e = some v) : PE X e (tC v) ∧ ∀ es, starEach (e :: es) X.env = (false, eval e X.env) :: starEach es X.env := by
  unfold litV at h
  split at h
  · cases h; exact ⟨pe_int, fun _ => rfl⟩
  · cases h; exact ⟨pe_str, fun _ => rfl⟩
  · cases h; exact ⟨pe_non, fun _ => rfl⟩
  · cases h; exact ⟨pe_bl, fun _ => rfl⟩
  · cases h
    exact ⟨fun pins s σ H Q I q => pe_un un_neg pe_int pins s σ H Q I ⟨_, rfl, q⟩, fun _ => rfl⟩
  · cases h
theorem pa_lits {X : Cx} : ∀ {es : List Expr} {vs : List V}, litVs es = some vs → PA X es (fun _ H Q => Q vs H)
  | [], vs, h => by
    cases h
    exact pa_nil
  | e :: es, vs, h => by
    unfold litVs at h
    cases h1 : litV e with
    | none => rw [h1] at h; cases h
    | some v =>
      rw [h1] at h
      cases h2 : litVs es with
      | none => rw [h2] at h; cases h
      | some ws =>
        rw [h2] at h
        cases h
        obtain ⟨a, b⟩ := lit_ok (X := X) h1
        exact pa_cons a (pa_lits h2) (b es)
/-- a written list, a list, behind a name for it -/
theorem pe_litL {X : Cx} {L : Expr} {es : List Expr} {vs : List V} {pos : Pos} (hL : Expr.List es pos = L) (h : litVs es = some vs) : PE X L (fun _ H Q => vs.length ≤ sizeLine ∧ ∀ p, H p = none → Q (.ref p) (upd H p (.lst vs))) := by
  subst hL
  exact pe_lst (pa_lits h)
end L2
end
section
/-! STEPS: a part of what rings, and how many there can be. -/
namespace Mir
section
variable {ν : Type}
inductive Steps (goal : Int) (f : Fn ν) : List (Int × Int × ν) → Fn ν → Prop where
  | nil : Steps goal f [] f
  | snoc {g : Fn ν} {n : Int} {a : Al ν} {l : List (Int × Int × ν)} : Steps goal f l g → Next goal g n a → Steps goal f (l ++ [(a.tick, n, a.name)]) (fput g n (after a))
theorem Steps.runs {goal : Int} {f g h : Fn ν} {l m : List (Int × Int × ν)} (x : Steps goal f l g) : Runs goal g m h → Runs goal f (l ++ m) h := by
  induction x generalizing m with
  | nil => exact fun y => y
  | snoc s nx ih =>
    intro y
    rw [List.append_assoc]
    exact ih (.ring nx y)
theorem Steps.trans {goal : Int} {f g h : Fn ν} {l m : List (Int × Int × ν)} (x : Steps goal f l g) (y : Steps goal g m h) : Steps goal f (l ++ m) h := by
  induction y with
  | nil => rw [List.append_nil]; exact x
  | snoc s nx ih => rw [← List.append_assoc]; exact .snoc ih nx
theorem Steps.stop {goal : Int} {f g : Fn ν} {l : List (Int × Int × ν)} (x : Steps goal f l g) (h : ∀ n a, g n = some a → goal < a.tick) : Runs goal f l g := by
  have := x.runs (.stop h)
  rw [List.append_nil] at this
  exact this
/-- the alarms have numbers below N, and steps that lead on -/
def GoodF (N : Nat) (f : Fn ν) : Prop := ∀ n a, f n = some a → (0 ≤ n ∧ n < N) ∧ ∀ k, a.step = some k → 0 < k
theorem GoodF.ring {N : Nat} {f : Fn ν} (g : GoodF N f) {n : Int} {a : Al ν} (h : f n = some a) : GoodF N (fput f n (after a)) := by
  intro m b e
  by_cases hm : m = n
  · subst hm
    rw [fput_same] at e
    unfold after at e
    cases hs : a.step with
    | none => rw [hs] at e; cases e
    | some q =>
      rw [hs] at e
      cases e
      exact ⟨(g m a h).1, fun k hk => (g m a h).2 k (by rw [hs]; exact hk)⟩
  · rw [fput_ne _ _ hm] at e
    exact g m b e
/-- how many times it still rings -/
def muF (goal : Int) (N : Nat) (f : Fn ν) : Nat := ((List.range N).map fun (i : Nat) => cntO goal (f (i : Int))).sum
theorem sum_change {N i : Nat} {g h : Nat → Nat} (hi : i < N) (e : h i + 1 = g i) (same : ∀ j, j ≠ i → h j = g j) : ((List.range N).map h).sum + 1 = ((List.range N).map g).sum := by
  induction N with
  | zero => omega
  | succ N ih =>
    rw [List.range_succ, List.map_append, List.map_append, List.sum_append, List.sum_append]
    simp only [List.map_cons, List.map_nil, List.sum_cons, List.sum_nil]
    by_cases h1 : i = N
    · subst h1
      have : ((List.range i).map h) = ((List.range i).map g) := by
        apply List.map_congr_left
        intro j hj
        have := List.mem_range.mp hj
        exact same j (by omega)
      rw [this]
      omega
    · have := ih (by omega)
      have := same N (fun z => h1 z.symm)
      omega
theorem muF_ring {goal : Int} {N : Nat} {f : Fn ν} (g : GoodF N f) {n : Int} {a : Al ν} (nx : Next goal f n a) : muF goal N (fput f n (after a)) + 1 = muF goal N f := by
  obtain ⟨⟨h0, h1⟩, hs⟩ := g n a nx.there
  refine sum_change (i := n.toNat) (by omega) ?_ fun j hj => ?_
  · have e : ((n.toNat : Nat) : Int) = n := by omega
    rw [e, fput_same, nx.there]
    exact cnt_after nx.due hs
  · rw [fput_ne _ _ (by omega)]
theorem Steps.good {goal : Int} {N : Nat} {f g : Fn ν} {l : List (Int × Int × ν)} (x : Steps goal f l g) (hf : GoodF N f) : GoodF N g ∧ l.length + muF goal N g = muF goal N f := by
  induction x with
  | nil => exact ⟨hf, by simp⟩
  | snoc s nx ih =>
    obtain ⟨a, b⟩ := ih
    have := muF_ring a nx
    refine ⟨a.ring nx.there, ?_⟩
    rw [List.length_append, List.length_singleton]
    omega
end
end Mir
end
section
/-! THE WHEELS in plain Lean: at which level a tick lies, and what follows of it. -/
namespace Rk
open Mir
def levFrom (S now due : Int) : Nat → Nat → Nat
  | 0, i => i
  | n + 1, i => if now / S ^ (i + 1) = due / S ^ (i + 1) then i else levFrom S now due n (i + 1)
/-- the level of a tick; n if it lies in none -/
def lv (S : Int) (n : Nat) (now due : Int) : Nat := levFrom S now due n 0
theorem levFrom_spec (S now due : Int) : ∀ n i, i ≤ levFrom S now due n i ∧ levFrom S now due n i ≤ i + n ∧ (∀ j, i ≤ j → j < levFrom S now due n i → now / S ^ (j + 1) ≠ due / S ^ (j + 1)) ∧
    (levFrom S now due n i < i + n → now / S ^ (levFrom S now due n i + 1) = due / S ^ (levFrom S now due n i + 1))
  | 0, i => by simp [levFrom]; intro j h1 h2; omega
  | n + 1, i => by
    by_cases h : now / S ^ (i + 1) = due / S ^ (i + 1)
    · have e : levFrom S now due (n + 1) i = i := by rw [levFrom, if_pos h]
      rw [e]
      exact ⟨Nat.le_refl _, by omega, fun j h1 h2 => by omega, fun _ => h⟩
    · have e : levFrom S now due (n + 1) i = levFrom S now due n (i + 1) := by rw [levFrom, if_neg h]
      obtain ⟨a, b, c, d⟩ := levFrom_spec S now due n (i + 1)
      rw [e]
      refine ⟨by omega, by omega, fun j h1 h2 => ?_, fun h3 => d (by omega)⟩
      by_cases hj : j = i
      · subst hj; exact h
      · exact c j (by omega) h2
theorem lv_le (S : Int) (n : Nat) (now due : Int) : lv S n now due ≤ n := by have := (levFrom_spec S now due n 0).2.1; unfold lv; omega
theorem lv_ne {S : Int} {n : Nat} {now due : Int} {j : Nat} (h : j < lv S n now due) : now / S ^ (j + 1) ≠ due / S ^ (j + 1) := (levFrom_spec S now due n 0).2.2.1 j (Nat.zero_le _) h
theorem lv_eq {S : Int} {n : Nat} {now due : Int} (h : lv S n now due < n) : now / S ^ (lv S n now due + 1) = due / S ^ (lv S n now due + 1) := (levFrom_spec S now due n 0).2.2.2 (by unfold lv at h; omega)
theorem lv_of {S : Int} {n : Nat} {now due : Int} {L : Nat} (hL : L ≤ n) (h1 : ∀ j, j < L → now / S ^ (j + 1) ≠ due / S ^ (j + 1)) (h2 : L < n → now / S ^ (L + 1) = due / S ^ (L + 1)) : lv S n now due = L := by
  rcases Nat.lt_trichotomy (lv S n now due) L with h | h | h
  · exact absurd (lv_eq (Nat.lt_of_lt_of_le h hL)) (h1 _ h)
  · exact h
  · exact absurd (h2 (Nat.lt_of_lt_of_le h (lv_le S n now due))) (lv_ne h)
theorem pow_pos {S : Int} (hS : 0 < S) (i : Nat) : 0 < S ^ i := Int.pow_pos hS
theorem div_div {a b c : Int} (hb : 0 < b) : a / b / c = a / (b * c) := by
  rw [Int.ediv_ediv, if_neg (by omega)]
  omega
theorem div_pow_eq {S : Int} (hS : 0 < S) {a b : Int} {i j : Nat} (h : a / S ^ i = b / S ^ i) (hij : i ≤ j) : a / S ^ j = b / S ^ j := by
  have e : S ^ j = S ^ i * S ^ (j - i) := by rw [← Int.pow_add]; congr 1; omega
  rw [e, ← div_div (pow_pos hS i), ← div_div (pow_pos hS i), h]
/-- where the slot of a tick begins -/
def st (S : Int) (n : Nat) (now due : Int) : Int := due / S ^ lv S n now due * S ^ lv S n now due
theorem st_le {S : Int} (hS : 0 < S) (n : Nat) (now due : Int) : st S n now due ≤ due := Int.ediv_mul_le _ (Int.ne_of_gt (pow_pos hS _))
theorem lt_st {S : Int} (hS : 0 < S) {n : Nat} {now due : Int} (h : now < due) : now < st S n now due := by
  unfold st
  cases e : lv S n now due with
  | zero => simp; exact h
  | succ L =>
    have ne := lv_ne (S := S) (n := n) (now := now) (due := due) (j := L) (by omega)
    have p := pow_pos hS (L + 1)
    have le : now / S ^ (L + 1) ≤ due / S ^ (L + 1) := Int.ediv_le_ediv p (Int.le_of_lt h)
    have lt : now / S ^ (L + 1) < due / S ^ (L + 1) := by omega
    exact (Int.ediv_lt_iff_lt_mul p).mp lt
theorem lv_stay {S : Int} (hS : 0 < S) {n : Nat} {now t due : Int} (h1 : now ≤ t) (h2 : t < st S n now due) : lv S n t due = lv S n now due := by
  have hd : t < due := Int.lt_of_lt_of_le h2 (st_le hS n now due)
  refine lv_of (lv_le _ _ _ _) (fun j hj e => ?_) fun hl => ?_
  · have e2 := div_pow_eq hS (i := j + 1) (j := lv S n now due) e hj
    have p := pow_pos hS (lv S n now due)
    have : t / S ^ lv S n now due < due / S ^ lv S n now due := (Int.ediv_lt_iff_lt_mul p).mpr h2
    omega
  · have e := lv_eq hl
    have p := pow_pos hS (lv S n now due + 1)
    have a := Int.ediv_le_ediv p h1
    have b := Int.ediv_le_ediv p (Int.le_of_lt hd)
    omega
/-- what lies lower comes sooner -/
theorem lv_order {S : Int} (hS : 0 < S) {n : Nat} {now a b : Int} (hb : now < b) (h : lv S n now a < lv S n now b) : a < st S n now b := by
  have hl : lv S n now a < n := Nat.lt_of_lt_of_le h (lv_le _ _ _ _)
  have e := lv_eq hl
  have p := pow_pos hS (lv S n now a + 1)
  have q := lt_st hS (n := n) hb
  -- a's stretch ends at a multiple of its span
  have a1 : a < (now / S ^ (lv S n now a + 1) + 1) * S ^ (lv S n now a + 1) := by rw [e]; exact Int.lt_ediv_add_one_mul_self a p
  have ee : S ^ lv S n now b = S ^ (lv S n now b - (lv S n now a + 1)) * S ^ (lv S n now a + 1) := by rw [← Int.pow_add]; congr 1; omega
  have b1 : st S n now b = (b / S ^ lv S n now b * S ^ (lv S n now b - (lv S n now a + 1))) * S ^ (lv S n now a + 1) := by
    unfold st
    rw [Int.mul_assoc, ← ee]
  have b2 : now / S ^ (lv S n now a + 1) < b / S ^ lv S n now b * S ^ (lv S n now b - (lv S n now a + 1)) := (Int.ediv_lt_iff_lt_mul p).mpr (by rw [← b1]; exact q)
  have b3 : (now / S ^ (lv S n now a + 1) + 1) * S ^ (lv S n now a + 1) ≤ (b / S ^ lv S n now b * S ^ (lv S n now b - (lv S n now a + 1))) * S ^ (lv S n now a + 1) := Int.mul_le_mul_of_nonneg_right (by omega) (Int.le_of_lt p)
  rw [b1]
  omega
/-- of one level: the lower slot comes sooner -/
theorem lv_same {S : Int} (hS : 0 < S) {n : Nat} {now a b : Int} (h : lv S n now a = lv S n now b) (hs : st S n now a < st S n now b) : a < st S n now b := by
  unfold st at hs ⊢
  rw [h] at hs
  have p := pow_pos hS (lv S n now b)
  have lt : a / S ^ lv S n now b < b / S ^ lv S n now b := by
    rcases Int.lt_or_le (a / S ^ lv S n now b) (b / S ^ lv S n now b) with z | z
    · exact z
    · have := Int.mul_le_mul_of_nonneg_right z (Int.le_of_lt p)
      omega
  exact (Int.ediv_lt_iff_lt_mul p).mp lt
/-- slots that begin at one tick are one -/
theorem st_inj {S : Int} (hS : 0 < S) {n : Nat} {now a b : Int} (ha : now < a) (hb : now < b) (hs : st S n now a = st S n now b) : lv S n now a = lv S n now b := by
  rcases Nat.lt_trichotomy (lv S n now a) (lv S n now b) with h | h | h
  · have := lv_order hS hb h
    have := st_le hS n now a
    omega
  · exact h
  · have := lv_order hS ha h
    have := st_le hS n now b
    omega
/-- a slot ahead of another: its ticks too -/
theorem st_lt {S : Int} (hS : 0 < S) {n : Nat} {now a b : Int} (ha : now < a) (hb : now < b) (hs : st S n now a < st S n now b) : a < st S n now b := by
  rcases Nat.lt_trichotomy (lv S n now a) (lv S n now b) with h | h | h
  · exact lv_order hS hb h
  · exact lv_same hS h hs
  · have := lv_order hS ha h
    have := st_le hS n now b
    omega
end Rk
end
section
/-! A ROW of slots in plain Lean. -/
namespace Rk
open Mir
structure RowS where
  span : Int
  filled : Dct (List Int)
  rising : List Int
def pos (l : List Int) (v : Int) : Nat := l.countP (fun x => decide (x < v))
def insAt (l : List Int) (i : Nat) (v : Int) : List Int := l.take i ++ v :: l.drop i
def putN (ns : List Int) (n : Int) : List Int := if n ∈ ns then ns else ns ++ [n]
def dropN (ns : List Int) (n : Int) : List Int := ns.filter fun x => !decide (x = n)
def slotIn (r : RowS) (s : Int) : RowS := if (get r.filled s).isSome = true then r else ⟨r.span, put r.filled s [], insAt r.rising (pos r.rising s) s⟩
def setSlot (r : RowS) (s : Int) (ns : List Int) : RowS := ⟨r.span, put r.filled s ns, r.rising⟩
def rowPut (r : RowS) (n s : Int) : RowS := setSlot (slotIn r s) s (putN ((get (slotIn r s).filled s).getD []) n)
def slotOut (r : RowS) (s : Int) : RowS := ⟨r.span, drop r.filled s, r.rising.eraseIdx (pos r.rising s)⟩
def rowTake (r : RowS) (n s : Int) : RowS :=
  if dropN ((get r.filled s).getD []) n = [] then slotOut (setSlot r s (dropN ((get r.filled s).getD []) n)) s else setSlot r s (dropN ((get r.filled s).getD []) n)

theorem pos_le (l : List Int) (v : Int) : pos l v ≤ l.length := List.countP_le_length
theorem pos_spec {v : Int} : ∀ {l : List Int}, l.Pairwise (· < ·) → ∀ (i : Nat) x, l[i]? = some x → (x < v ↔ i < pos l v)
  | [], _, i, x, h => by simp at h
  | a :: r, hp, i, x, h => by
    obtain ⟨h1, h2⟩ := List.pairwise_cons.mp hp
    have ih := pos_spec (v := v) h2
    by_cases ha : a < v
    · have e : pos (a :: r) v = pos r v + 1 := by unfold pos; rw [List.countP_cons_of_pos (by simpa using ha)]
      rw [e]
      cases i with
      | zero => simp at h; subst h; simp [ha]
      | succ i =>
        have := ih i x (by simpa using h)
        omega
    · have e0 : pos (a :: r) v = pos r v := by unfold pos; rw [List.countP_cons_of_neg (by simpa using ha)]
      have e1 : pos r v = 0 := by
        unfold pos
        rw [List.countP_eq_zero]
        intro y hy
        have := h1 y hy
        simp
        omega
      rw [e0, e1]
      cases i with
      | zero => simp at h; subst h; simp; omega
      | succ i =>
        have hm : x ∈ r := List.mem_of_getElem? (by simpa using h)
        have := h1 x hm
        omega
theorem mem_take_lt {l : List Int} {v : Int} (hp : l.Pairwise (· < ·)) {x : Int} (h : x ∈ l.take (pos l v)) : x < v := by
  obtain ⟨i, hi, e⟩ := List.mem_take_iff_getElem.mp h
  refine (pos_spec hp i x ?_).mpr (by omega)
  rw [← e]
  simp
theorem mem_drop_ge {l : List Int} {v : Int} (hp : l.Pairwise (· < ·)) {x : Int} (h : x ∈ l.drop (pos l v)) : v ≤ x := by
  obtain ⟨i, hi, e⟩ := List.mem_drop_iff_getElem.mp h
  have q := (pos_spec (v := v) hp (pos l v + i) x (by rw [← e]; simp))
  omega
theorem mem_insAt {l : List Int} {i : Nat} {v x : Int} : x ∈ insAt l i v ↔ x = v ∨ x ∈ l := by
  unfold insAt
  constructor
  · intro h
    rcases List.mem_append.mp h with h | h
    · exact .inr (List.mem_of_mem_take h)
    · rcases List.mem_cons.mp h with h | h
      · exact .inl h
      · exact .inr (List.mem_of_mem_drop h)
  · rintro (rfl | h)
    · exact List.mem_append.mpr (.inr List.mem_cons_self)
    · have : x ∈ l.take i ++ l.drop i := by rw [List.take_append_drop]; exact h
      rcases List.mem_append.mp this with q | q
      · exact List.mem_append.mpr (.inl q)
      · exact List.mem_append.mpr (.inr (List.mem_cons_of_mem _ q))
theorem srt_insAt {l : List Int} {v : Int} (hp : l.Pairwise (· < ·)) (hv : v ∉ l) : (insAt l (pos l v) v).Pairwise (· < ·) := by
  unfold insAt
  have hd : ∀ x ∈ l.drop (pos l v), v < x := fun x hx => by
    have := mem_drop_ge hp hx
    have : x ≠ v := fun z => hv (z ▸ List.mem_of_mem_drop hx)
    omega
  refine List.pairwise_append.mpr ⟨hp.sublist (List.take_sublist _ _), List.pairwise_cons.mpr ⟨hd, hp.sublist (List.drop_sublist _ _)⟩, fun a ha b hb => ?_⟩
  have h1 := mem_take_lt hp ha
  rcases List.mem_cons.mp hb with rfl | hb
  · exact h1
  · have := hd b hb
    omega
theorem at_pos {l : List Int} {v : Int} (hp : l.Pairwise (· < ·)) (hv : v ∈ l) : l[pos l v]? = some v := by
  obtain ⟨i, hi, e⟩ := List.mem_iff_getElem.mp hv
  have q := pos_spec (v := v) hp i v (by rw [← e]; simp [hi])
  have hle : pos l v ≤ i := by omega
  rcases Nat.lt_or_ge (pos l v) i with z | z
  · have hj : pos l v < l.length := by omega
    have q2 := pos_spec (v := v) hp (pos l v) l[pos l v] (by simp [hj])
    have q3 : l[pos l v] < l[i] := List.pairwise_iff_getElem.mp hp _ _ hj hi z
    omega
  · have e2 : pos l v = i := by omega
    rw [e2, ← e]
    simp [hi]
theorem nodup_of_srt {l : List Int} (hp : l.Pairwise (· < ·)) : l.Nodup := hp.imp fun h => Int.ne_of_lt h
theorem mem_erase {l : List Int} {v x : Int} (hp : l.Pairwise (· < ·)) (hv : v ∈ l) : x ∈ l.eraseIdx (pos l v) ↔ x ∈ l ∧ x ≠ v := by
  have e := at_pos hp hv
  obtain ⟨hk, ev⟩ := List.getElem?_eq_some_iff.mp e
  rw [List.mem_eraseIdx_iff_getElem]
  constructor
  · rintro ⟨i, hi, hne, rfl⟩
    refine ⟨List.getElem_mem hi, fun z => ?_⟩
    rcases Nat.lt_trichotomy i (pos l v) with q | q | q
    · have := List.pairwise_iff_getElem.mp hp _ _ hi hk q
      omega
    · exact hne q
    · have := List.pairwise_iff_getElem.mp hp _ _ hk hi q
      omega
  · rintro ⟨hm, hne⟩
    obtain ⟨i, hi, rfl⟩ := List.mem_iff_getElem.mp hm
    exact ⟨i, hi, fun z => hne (by subst z; exact ev), rfl⟩
/-- two rising rows of the same numbers are one -/
theorem srt_eq {l m : List Int} (hl : l.Pairwise (· < ·)) (hm : m.Pairwise (· < ·)) (h : ∀ x, x ∈ l ↔ x ∈ m) : l = m := by
  have hp : l.Perm m := by
    rw [List.perm_iff_count]
    intro a
    by_cases ha : a ∈ l
    · rw [List.Nodup.count (nodup_of_srt hl), List.Nodup.count (nodup_of_srt hm), if_pos ha, if_pos ((h a).mp ha)]
    · rw [List.Nodup.count (nodup_of_srt hl), List.Nodup.count (nodup_of_srt hm), if_neg ha, if_neg fun z => ha ((h a).mpr z)]
  exact hp.eq_of_pairwise (fun a b _ _ h1 h2 => by omega) hl hm
theorem srt_of_perm {l m : List Int} (hp : l.Perm m) (hs : l.Pairwise (· ≤ ·)) (hn : m.Nodup) : l.Pairwise (· < ·) ∧ ∀ x, x ∈ l ↔ x ∈ m := by
  have hn' : l.Nodup := hp.nodup_iff.mpr hn
  exact ⟨hs.imp₂ (fun a b h1 h2 => by omega) hn', fun x => hp.mem_iff⟩

/-- a row holds just the alarms of g, each in the slot of its tick -/
structure RowOK (r : RowS) (g : Int → Option Int) : Prop where
  sp : 0 < r.span
  ndk : (keys r.filled).Nodup
  srt : r.rising.Pairwise (· < ·)
  mem : ∀ s, s ∈ r.rising ↔ (get r.filled s).isSome = true
  nd : ∀ s ns, get r.filled s = some ns → ns.Nodup
  ne : ∀ s ns, get r.filled s = some ns → ns ≠ []
  has : ∀ n s, (∃ ns, get r.filled s = some ns ∧ n ∈ ns) ↔ ∃ t, g n = some t ∧ t / r.span = s
def gput (g : Int → Option Int) (n : Int) (o : Option Int) : Int → Option Int := fun m => if m = n then o else g m
theorem mem_putN {ns : List Int} {n m : Int} : m ∈ putN ns n ↔ m = n ∨ m ∈ ns := by
  unfold putN
  by_cases h : n ∈ ns
  · rw [if_pos h]
    exact ⟨.inr, fun z => z.elim (fun e => e ▸ h) id⟩
  · rw [if_neg h, List.mem_append, List.mem_singleton]
    exact ⟨fun z => z.elim .inr .inl, fun z => z.elim .inr .inl⟩
theorem nd_putN {ns : List Int} {n : Int} (h : ns.Nodup) : (putN ns n).Nodup := by
  unfold putN
  by_cases hn : n ∈ ns
  · rw [if_pos hn]; exact h
  · rw [if_neg hn, List.nodup_append]
    refine ⟨h, by simp, fun a ha b hb e => ?_⟩
    have : b = n := by simpa using hb
    subst this
    exact hn (e ▸ ha)
theorem mem_dropN {ns : List Int} {n m : Int} : m ∈ dropN ns n ↔ m ∈ ns ∧ m ≠ n := by
  unfold dropN
  rw [List.mem_filter]
  simp
theorem slotIn_get (r : RowS) (s x : Int) : get (slotIn r s).filled x = if x = s then some ((get r.filled s).getD []) else get r.filled x := by
  unfold slotIn
  by_cases h : (get r.filled s).isSome = true
  · rw [if_pos h]
    by_cases e : x = s
    · subst e
      rw [if_pos rfl]
      obtain ⟨v, hv⟩ := Option.isSome_iff_exists.mp h
      rw [hv]
      rfl
    · rw [if_neg e]
  · rw [if_neg h]
    show get (put r.filled s []) x = _
    rw [get_put]
    have hn : get r.filled s = none := by simpa using h
    rw [hn]
    rfl
theorem slotIn_span (r : RowS) (s : Int) : (slotIn r s).span = r.span := by unfold slotIn; by_cases h : (get r.filled s).isSome = true <;> simp [h]
theorem slotIn_mem {r : RowS} {g : Int → Option Int} (R : RowOK r g) (s x : Int) : x ∈ (slotIn r s).rising ↔ x = s ∨ x ∈ r.rising := by
  unfold slotIn
  by_cases h : (get r.filled s).isSome = true
  · rw [if_pos h]
    exact ⟨.inr, fun z => z.elim (fun e => e ▸ (R.mem s).mpr h) id⟩
  · rw [if_neg h]
    exact mem_insAt
theorem slotIn_srt {r : RowS} {g : Int → Option Int} (R : RowOK r g) (s : Int) : (slotIn r s).rising.Pairwise (· < ·) := by
  unfold slotIn
  by_cases h : (get r.filled s).isSome = true
  · rw [if_pos h]; exact R.srt
  · rw [if_neg h]
    exact srt_insAt R.srt fun z => h ((R.mem s).mp z)
theorem slotIn_ndk {r : RowS} {g : Int → Option Int} (R : RowOK r g) (s : Int) : (keys (slotIn r s).filled).Nodup := by
  unfold slotIn
  by_cases h : (get r.filled s).isSome = true
  · rw [if_pos h]; exact R.ndk
  · rw [if_neg h]; exact nodup_put R.ndk _ _
theorem rowPut_get (r : RowS) (n s x : Int) : get (rowPut r n s).filled x = if x = s then some (putN ((get r.filled s).getD []) n) else get r.filled x := by
  show get (put (slotIn r s).filled s _) x = _
  rw [get_put, slotIn_get, slotIn_get]
  by_cases e : x = s
  · simp [e]
  · simp [e]
theorem rowPut_ok {r : RowS} {g : Int → Option Int} (R : RowOK r g) {n t : Int} (hn : g n = none) : RowOK (rowPut r n (t / r.span)) (gput g n (some t)) where
  sp := by show 0 < (slotIn r _).span; rw [slotIn_span]; exact R.sp
  ndk := nodup_put (slotIn_ndk R _) _ _
  srt := slotIn_srt R _
  mem := fun s => by
    show s ∈ (slotIn r _).rising ↔ _
    rw [slotIn_mem R, rowPut_get]
    by_cases e : s = t / r.span
    · simp [e]
    · simp only [e, false_or, if_false]
      exact R.mem s
  nd := fun s ns h => by
    rw [rowPut_get] at h
    by_cases e : s = t / r.span
    · rw [if_pos e] at h
      cases h
      refine nd_putN ?_
      cases q : get r.filled (t / r.span) with
      | none => simp
      | some l => exact R.nd _ _ q
    · rw [if_neg e] at h
      exact R.nd _ _ h
  ne := fun s ns h z => by
    rw [rowPut_get] at h
    by_cases e : s = t / r.span
    · rw [if_pos e] at h
      cases h
      have : n ∈ putN ((get r.filled (t / r.span)).getD []) n := mem_putN.mpr (.inl rfl)
      rw [z] at this
      cases this
    · rw [if_neg e] at h
      exact R.ne _ _ h z
  has := fun m s => by
    have hsp : (rowPut r n (t / r.span)).span = r.span := slotIn_span _ _
    rw [rowPut_get, hsp]
    have key := R.has m s
    by_cases em : m = n
    · subst em
      have no : ¬ ∃ ns, get r.filled s = some ns ∧ m ∈ ns := fun z => by
        obtain ⟨t', ht, _⟩ := key.mp z
        rw [hn] at ht
        cases ht
      simp only [gput, if_true]
      constructor
      · rintro ⟨ns, h, hm⟩
        by_cases e : s = t / r.span
        · exact ⟨t, rfl, e.symm⟩
        · rw [if_neg e] at h
          exact (no ⟨ns, h, hm⟩).elim
      · rintro ⟨t', e1, e2⟩
        cases e1
        rw [if_pos e2.symm]
        exact ⟨_, rfl, mem_putN.mpr (.inl rfl)⟩
    · simp only [gput, if_neg em]
      rw [← key]
      by_cases e : s = t / r.span
      · subst e
        rw [if_pos rfl]
        constructor
        · rintro ⟨ns, h, hm⟩
          cases h
          rcases mem_putN.mp hm with z | z
          · exact (em z).elim
          · cases q : get r.filled (t / r.span) with
            | none => rw [q] at z; cases z
            | some l => exact ⟨l, rfl, by rw [q] at z; exact z⟩
        · rintro ⟨ns, h, hm⟩
          refine ⟨_, rfl, mem_putN.mpr (.inr ?_)⟩
          rw [h]
          exact hm
      · rw [if_neg e]
theorem slotOut_ok {r : RowS} {g : Int → Option Int} (R : RowOK r g) {s : Int} (hs : s ∈ r.rising) : RowOK (slotOut r s) (fun n => (g n).filter fun t => !decide (t / r.span = s)) where
  sp := R.sp
  ndk := nodup_drop R.ndk _
  srt := R.srt.sublist (List.eraseIdx_sublist _ _)
  mem := fun x => by
    show x ∈ r.rising.eraseIdx (pos r.rising s) ↔ (get (drop r.filled s) x).isSome = true
    rw [mem_erase R.srt hs, get_drop, R.mem x]
    by_cases e : x = s <;> simp [e]
  nd := fun x ns h => by
    have h' : get (drop r.filled s) x = some ns := h
    rw [get_drop] at h'
    by_cases e : x = s
    · rw [if_pos e] at h'; cases h'
    · rw [if_neg e] at h'; exact R.nd _ _ h'
  ne := fun x ns h => by
    have h' : get (drop r.filled s) x = some ns := h
    rw [get_drop] at h'
    by_cases e : x = s
    · rw [if_pos e] at h'; cases h'
    · rw [if_neg e] at h'; exact R.ne _ _ h'
  has := fun m x => by
    show (∃ ns, get (drop r.filled s) x = some ns ∧ m ∈ ns) ↔ _
    rw [get_drop]
    have key := R.has m x
    by_cases e : x = s
    · rw [if_pos e]
      constructor
      · rintro ⟨ns, h, _⟩
        cases h
      · rintro ⟨t, h, h2⟩
        rw [Option.filter_eq_some_iff] at h
        have : ¬ t / r.span = s := by simpa using h.2
        exact (this (h2.trans e)).elim
    · rw [if_neg e, key]
      constructor
      · rintro ⟨t, h, h2⟩
        refine ⟨t, ?_, h2⟩
        rw [Option.filter_eq_some_iff]
        exact ⟨h, by simp; rw [show r.span = (slotOut r s).span from rfl] at h2; intro z; exact e (h2 ▸ z)⟩
      · rintro ⟨t, h, h2⟩
        rw [Option.filter_eq_some_iff] at h
        exact ⟨t, h.1, h2⟩
theorem rowTake_get (r : RowS) (n s x : Int) : get (rowTake r n s).filled x = if x = s then (if dropN ((get r.filled s).getD []) n = [] then none else some (dropN ((get r.filled s).getD []) n)) else get r.filled x := by
  unfold rowTake
  by_cases h : dropN ((get r.filled s).getD []) n = []
  · rw [if_pos h, if_pos h]
    show get (drop (put r.filled s _) s) x = _
    rw [get_drop, get_put]
    by_cases e : x = s <;> simp [e]
  · rw [if_neg h, if_neg h]
    show get (put r.filled s _) x = _
    rw [get_put]
theorem rowTake_ok {r : RowS} {g : Int → Option Int} (R : RowOK r g) {n t : Int} (hn : g n = some t) : RowOK (rowTake r n (t / r.span)) (gput g n none) := by
  obtain ⟨ns, hns, hm⟩ := (R.has n (t / r.span)).mpr ⟨t, hn, rfl⟩
  have hs : t / r.span ∈ r.rising := (R.mem _).mpr (by rw [hns]; rfl)
  have G := rowTake_get r n (t / r.span)
  rw [hns] at G
  simp only [Option.getD_some] at G
  have sp : (rowTake r n (t / r.span)).span = r.span := by unfold rowTake; by_cases h : dropN ((get r.filled (t / r.span)).getD []) n = [] <;> simp [h, slotOut, setSlot]
  have ri : ∀ x, x ∈ (rowTake r n (t / r.span)).rising ↔ x ∈ r.rising ∧ (x = t / r.span → dropN ns n ≠ []) := fun x => by
    unfold rowTake
    rw [hns]
    simp only [Option.getD_some]
    by_cases h : dropN ns n = []
    · rw [if_pos h]
      show x ∈ r.rising.eraseIdx (pos r.rising (t / r.span)) ↔ _
      rw [mem_erase R.srt hs]
      simp [h]
    · rw [if_neg h]
      show x ∈ r.rising ↔ _
      simp [h]
  refine ⟨by rw [sp]; exact R.sp, ?_, ?_, fun x => ?_, fun x l h => ?_, fun x l h => ?_, fun m x => ?_⟩
  · unfold rowTake
    by_cases h : dropN ((get r.filled (t / r.span)).getD []) n = []
    · rw [if_pos h]
      exact nodup_drop (nodup_put R.ndk _ _) _
    · rw [if_neg h]
      exact nodup_put R.ndk _ _
  · unfold rowTake
    by_cases h : dropN ((get r.filled (t / r.span)).getD []) n = []
    · rw [if_pos h]
      exact R.srt.sublist (List.eraseIdx_sublist _ _)
    · rw [if_neg h]
      exact R.srt
  · rw [ri, G, R.mem x]
    by_cases e : x = t / r.span
    · rw [if_pos e]
      subst e
      by_cases h : dropN ns n = [] <;> simp [h, hns]
    · simp [e]
  · rw [G] at h
    by_cases e : x = t / r.span
    · rw [if_pos e] at h
      by_cases h0 : dropN ns n = []
      · rw [if_pos h0] at h; cases h
      · rw [if_neg h0] at h
        cases h
        exact (R.nd _ _ hns).sublist List.filter_sublist
    · rw [if_neg e] at h
      exact R.nd _ _ h
  · rw [G] at h
    by_cases e : x = t / r.span
    · rw [if_pos e] at h
      by_cases h0 : dropN ns n = []
      · rw [if_pos h0] at h; cases h
      · rw [if_neg h0] at h
        cases h
        exact h0
    · rw [if_neg e] at h
      exact R.ne _ _ h
  · rw [G, sp]
    have key := R.has m x
    have step : (∃ l, (if x = t / r.span then (if dropN ns n = [] then none else some (dropN ns n)) else get r.filled x) = some l ∧ m ∈ l) ↔ (∃ l, get r.filled x = some l ∧ m ∈ l) ∧ (x = t / r.span → m ≠ n) := by
      by_cases e : x = t / r.span
      · subst e
        rw [if_pos rfl]
        constructor
        · rintro ⟨l, h, hl⟩
          by_cases h0 : dropN ns n = []
          · rw [if_pos h0] at h; cases h
          · rw [if_neg h0] at h
            cases h
            obtain ⟨a, b⟩ := mem_dropN.mp hl
            exact ⟨⟨ns, hns, a⟩, fun _ => b⟩
        · rintro ⟨⟨l, h, hl⟩, hne⟩
          rw [hns] at h
          cases h
          have : m ∈ dropN ns n := mem_dropN.mpr ⟨hl, hne rfl⟩
          have h0 : dropN ns n ≠ [] := fun z => by rw [z] at this; cases this
          rw [if_neg h0]
          exact ⟨_, rfl, this⟩
      · rw [if_neg e]
        exact ⟨fun z => ⟨z, fun q => (e q).elim⟩, fun z => z.1⟩
    rw [step, key]
    unfold gput
    by_cases em : m = n
    · subst em
      rw [if_pos rfl]
      constructor
      · rintro ⟨⟨t', h1, h2⟩, h3⟩
        rw [hn] at h1
        cases h1
        exact (h3 h2.symm rfl).elim
      · rintro ⟨t', h1, _⟩
        cases h1
    · rw [if_neg em]
      exact ⟨fun z => z.1, fun z => ⟨z, fun _ => em⟩⟩
theorem rowOK_congr {r : RowS} {g g' : Int → Option Int} (R : RowOK r g) (h : ∀ n, g n = g' n) : RowOK r g' := by
  have : g = g' := funext h
  exact this ▸ R
/-- how many slots and numbers there are at most -/
theorem row_small {r : RowS} {g : Int → Option Int} (R : RowOK r g) {N : Nat} (dom : ∀ n t, g n = some t → 0 ≤ n ∧ n < N) : r.rising.length ≤ N ∧ r.filled.length ≤ N ∧ ∀ s ns, get r.filled s = some ns → ns.length ≤ N := by
  have rng : ∀ n t, g n = some t → n ∈ (List.range N).map (fun (i : Nat) => (i : Int)) := fun n t h => by
    obtain ⟨a, b⟩ := dom n t h
    exact List.mem_map.mpr ⟨n.toNat, List.mem_range.mpr (by omega), by omega⟩
  have c1 : ∀ s ns, get r.filled s = some ns → ns.length ≤ N := fun s ns h => by
    have q := (R.nd s ns h).length_le_of_subset (l₂ := (List.range N).map (fun (i : Nat) => (i : Int))) fun n hn => by
      obtain ⟨t, ht, _⟩ := (R.has n s).mp ⟨ns, h, hn⟩
      exact rng n t ht
    simpa using q
  -- each slot has a number of its own
  have pick : ∀ s, s ∈ r.rising → ∃ n t, g n = some t ∧ t / r.span = s := fun s hs => by
    obtain ⟨ns, h⟩ := Option.isSome_iff_exists.mp ((R.mem s).mp hs)
    cases e : ns with
    | nil => exact (R.ne s ns h e).elim
    | cons n l =>
      obtain ⟨t, ht, h2⟩ := (R.has n s).mp ⟨ns, h, by rw [e]; exact List.mem_cons_self⟩
      exact ⟨n, t, ht, h2⟩
  have c2 : ∀ l : List Int, l.Nodup → (∀ s ∈ l, s ∈ r.rising) → ∃ m : List Int, m.length = l.length ∧ m.Nodup ∧ ∀ n ∈ m, ∃ t, g n = some t ∧ t / r.span ∈ l := by
    intro l
    induction l with
    | nil => exact fun _ _ => ⟨[], rfl, List.nodup_nil, fun n h => by cases h⟩
    | cons s l ih =>
      intro hn hs
      obtain ⟨h1, h2⟩ := List.nodup_cons.mp hn
      obtain ⟨m, hl, hm, hg⟩ := ih h2 fun x hx => hs x (List.mem_cons_of_mem _ hx)
      obtain ⟨n, t, ht, hts⟩ := pick s (hs s List.mem_cons_self)
      refine ⟨n :: m, by simp [hl], List.nodup_cons.mpr ⟨fun z => ?_, hm⟩, fun x hx => ?_⟩
      · obtain ⟨t', ht', hx⟩ := hg n z
        rw [ht] at ht'
        cases ht'
        rw [hts] at hx
        exact h1 hx
      · rcases List.mem_cons.mp hx with rfl | hx
        · exact ⟨t, ht, by rw [hts]; exact List.mem_cons_self⟩
        · obtain ⟨t', a, b⟩ := hg x hx
          exact ⟨t', a, List.mem_cons_of_mem _ b⟩
  have c3 : r.rising.length ≤ N := by
    obtain ⟨m, hl, hm, hg⟩ := c2 r.rising (nodup_of_srt R.srt) fun _ h => h
    have q := hm.length_le_of_subset (l₂ := (List.range N).map (fun (i : Nat) => (i : Int))) fun n hn => by
      obtain ⟨t, ht, _⟩ := hg n hn
      exact rng n t ht
    rw [hl] at q
    simpa using q
  refine ⟨c3, ?_, c1⟩
  have q := R.ndk.length_le_of_subset (l₂ := r.rising) fun s hs => (R.mem s).mpr (by
    cases e : get r.filled s with
    | none => exact (get_none.mp e hs).elim
    | some v => rfl)
  have e : (keys r.filled).length = r.filled.length := by simp [keys]
  omega
end Rk
end
section
/-! THE RACK in plain Lean: rows, each of which holds the alarms that lie at its level. -/
namespace Rk
open Mir
def fil (S : Int) (n : Nat) (now : Int) (f : Int → Option Int) (i : Nat) : Int → Option Int := fun k => (f k).filter fun t => decide (lv S n now t = i)
theorem fil_some {S : Int} {n : Nat} {now : Int} {f : Int → Option Int} {i : Nat} {k t : Int} : fil S n now f i k = some t ↔ f k = some t ∧ lv S n now t = i := by
  unfold fil
  rw [Option.filter_eq_some_iff]
  simp
structure RackOK (S : Int) (n : Nat) (now : Int) (rows : List RowS) (f : Int → Option Int) : Prop where
  hS : 2 ≤ S
  len : rows.length = n + 1
  span : ∀ (i : Nat) r, rows[i]? = some r → r.span = S ^ i
  row : ∀ (i : Nat) r, rows[i]? = some r → RowOK r (fil S n now f i)
  ahead : ∀ k t, f k = some t → now < t
  dom : ∀ k t, f k = some t → 0 ≤ k ∧ k < 63
section
variable {S : Int} {n : Nat} {now : Int} {rows : List RowS} {f : Int → Option Int}
theorem RackOK.pS (R : RackOK S n now rows f) : 0 < S := by have := R.hS; omega
theorem RackOK.at (R : RackOK S n now rows f) {i : Nat} (h : i ≤ n) : ∃ r, rows[i]? = some r := by
  have : i < rows.length := by have := R.len; omega
  exact ⟨rows[i], by simp [this]⟩
theorem set_at {r : RowS} {L i : Nat} {r' : RowS} (h : rows[L]? = some r) (e : (rows.set L r')[i]? = some r'') : (i = L ∧ r'' = r') ∨ (i ≠ L ∧ rows[i]? = some r'') := by
  rw [List.getElem?_set] at e
  by_cases hi : L = i
  · subst hi
    have hl : L < rows.length := (List.getElem?_eq_some_iff.mp h).1
    rw [if_pos rfl, if_pos hl] at e
    exact .inl ⟨rfl, (Option.some.inj e).symm⟩
  · rw [if_neg hi] at e
    exact .inr ⟨fun z => hi z.symm, e⟩
theorem RackOK.put (R : RackOK S n now rows f) {k t : Int} {r : RowS} (hk : f k = none) (ht : now < t) (hd : 0 ≤ k ∧ k < 63) (hr : rows[lv S n now t]? = some r) :
    RackOK S n now (rows.set (lv S n now t) (rowPut r k (t / r.span))) (gput f k (some t)) where
  hS := R.hS
  len := by rw [List.length_set]; exact R.len
  span := fun i r' e => by
    rcases set_at hr e with ⟨rfl, rfl⟩ | ⟨_, e⟩
    · show (slotIn r _).span = _
      rw [slotIn_span]
      exact R.span _ _ hr
    · exact R.span i r' e
  row := fun i r' e => by
    rcases set_at hr e with ⟨rfl, rfl⟩ | ⟨hi, e⟩
    · refine rowOK_congr (rowPut_ok (R.row _ _ hr) (n := k) (t := t) ?_) fun m => ?_
      · unfold fil
        rw [hk]
        rfl
      · unfold gput fil
        by_cases em : m = k
        · simp [em, Option.filter]
        · simp [em]
    · refine rowOK_congr (R.row i r' e) fun m => ?_
      unfold gput fil
      dsimp only
      by_cases em : m = k
      · subst em
        rw [if_pos rfl, hk]
        simp [Option.filter, Ne.symm hi]
      · rw [if_neg em]
  ahead := fun m t' e => by
    unfold gput at e
    by_cases em : m = k
    · rw [if_pos em] at e; cases e; exact ht
    · rw [if_neg em] at e; exact R.ahead m t' e
  dom := fun m t' e => by
    unfold gput at e
    by_cases em : m = k
    · rw [if_pos em] at e; cases e; rw [em]; exact hd
    · rw [if_neg em] at e; exact R.dom m t' e
theorem RackOK.take (R : RackOK S n now rows f) {k t : Int} {r : RowS} (hk : f k = some t) (hr : rows[lv S n now t]? = some r) :
    RackOK S n now (rows.set (lv S n now t) (rowTake r k (t / r.span))) (gput f k none) where
  hS := R.hS
  len := by rw [List.length_set]; exact R.len
  span := fun i r' e => by
    rcases set_at hr e with ⟨rfl, rfl⟩ | ⟨_, e⟩
    · have : (rowTake r k (t / r.span)).span = r.span := by unfold rowTake; by_cases h : dropN ((get r.filled (t / r.span)).getD []) k = [] <;> simp [h, slotOut, setSlot]
      rw [this]
      exact R.span _ _ hr
    · exact R.span i r' e
  row := fun i r' e => by
    rcases set_at hr e with ⟨rfl, rfl⟩ | ⟨hi, e⟩
    · refine rowOK_congr (rowTake_ok (R.row _ _ hr) (n := k) (t := t) ?_) fun m => ?_
      · exact fil_some.mpr ⟨hk, rfl⟩
      · unfold gput fil
        by_cases em : m = k
        · simp [em, Option.filter]
        · simp [em]
    · refine rowOK_congr (R.row i r' e) fun m => ?_
      unfold gput fil
      dsimp only
      by_cases em : m = k
      · subst em
        rw [if_pos rfl, hk]
        simp [Option.filter, Ne.symm hi]
      · rw [if_neg em]
  ahead := fun m t' e => by
    unfold gput at e
    by_cases em : m = k
    · rw [if_pos em] at e; cases e
    · rw [if_neg em] at e; exact R.ahead m t' e
  dom := fun m t' e => by
    unfold gput at e
    by_cases em : m = k
    · rw [if_pos em] at e; cases e
    · rw [if_neg em] at e; exact R.dom m t' e
/-- a slot is emptied -/
theorem RackOK.out (R : RackOK S n now rows f) {L : Nat} {r : RowS} {s : Int} (hr : rows[L]? = some r) (hs : s ∈ r.rising) :
    RackOK S n now (rows.set L (slotOut r s)) (fun k => (f k).filter fun t => !decide (lv S n now t = L ∧ t / S ^ L = s)) where
  hS := R.hS
  len := by rw [List.length_set]; exact R.len
  span := fun i r' e => by
    rcases set_at hr e with ⟨rfl, rfl⟩ | ⟨_, e⟩
    · show r.span = _
      exact R.span _ _ hr
    · exact R.span i r' e
  row := fun i r' e => by
    rcases set_at hr e with ⟨rfl, rfl⟩ | ⟨hi, e⟩
    · refine rowOK_congr (slotOut_ok (R.row _ _ hr) hs) fun m => ?_
      rw [R.span _ _ hr]
      unfold fil
      dsimp only
      cases f m with
      | none => rfl
      | some t =>
        by_cases h1 : lv S n now t = i
        · by_cases h2 : t / S ^ i = s <;> simp [Option.filter, h1, h2]
        · simp [Option.filter, h1]
    · refine rowOK_congr (R.row i r' e) fun m => ?_
      unfold fil
      dsimp only
      cases f m with
      | none => rfl
      | some t =>
        by_cases h1 : lv S n now t = i
        · have : ¬ lv S n now t = L := fun z => hi (h1.symm.trans z)
          simp [Option.filter, h1, hi]
        · by_cases h2 : lv S n now t = L ∧ t / S ^ L = s <;> simp [Option.filter, h1, h2, Ne.symm hi]
  ahead := fun m t' e => by
    rw [Option.filter_eq_some_iff] at e
    exact R.ahead m t' e.1
  dom := fun m t' e => by
    rw [Option.filter_eq_some_iff] at e
    exact R.dom m t' e.1
/-- time goes on, up to where no slot begins -/
theorem RackOK.later (R : RackOK S n now rows f) {now' : Int} (h1 : now ≤ now') (h2 : ∀ k t, f k = some t → now' < st S n now t) : RackOK S n now' rows f where
  hS := R.hS
  len := R.len
  span := R.span
  row := fun i r e => rowOK_congr (R.row i r e) fun m => by
    unfold fil
    cases e : f m with
    | none => rfl
    | some t => simp [Option.filter, lv_stay R.pS h1 (h2 m t e)]
  ahead := fun k t e => Int.lt_of_lt_of_le (h2 k t e) (st_le R.pS n now t)
  dom := R.dom
theorem RackOK.congr {f' : Int → Option Int} (R : RackOK S n now rows f) (h : ∀ k, f k = f' k) : RackOK S n now rows f' := by
  have : f = f' := funext h
  exact this ▸ R
/-- the first row that is not empty -/
theorem RackOK.none_first (R : RackOK S n now rows f) (h : ∀ (i : Nat) r, rows[i]? = some r → r.rising = []) : ∀ k, f k = none := fun k => by
  cases e : f k with
  | none => rfl
  | some t =>
    obtain ⟨r, hr⟩ := R.at (lv_le S n now t)
    have Q := R.row _ _ hr
    obtain ⟨ns, h1, h2⟩ := (Q.has k (t / r.span)).mpr ⟨t, fil_some.mpr ⟨e, rfl⟩, rfl⟩
    have := (Q.mem (t / r.span)).mpr (by rw [h1]; rfl)
    rw [h _ r hr] at this
    cases this
/-- what the first slot of the first row that isn't empty tells -/
structure First (S : Int) (n : Nat) (now : Int) (f : Int → Option Int) (L : Nat) (s : Int) : Prop where
  le : L ≤ n
  one : ∃ k t, f k = some t ∧ lv S n now t = L ∧ t / S ^ L = s
  least : ∀ k t, f k = some t → s * S ^ L ≤ st S n now t
  just : ∀ k t, f k = some t → (st S n now t = s * S ^ L ↔ lv S n now t = L ∧ t / S ^ L = s)
theorem RackOK.first (R : RackOK S n now rows f) {L : Nat} {r : RowS} {s : Int} (hr : rows[L]? = some r) (hs : r.rising[0]? = some s) (low : ∀ (i : Nat) r', i < L → rows[i]? = some r' → r'.rising = []) : First S n now f L s := by
  have Q := R.row _ _ hr
  have sp := R.span _ _ hr
  have hm : s ∈ r.rising := List.mem_of_getElem? hs
  have hL : L ≤ n := by have := (List.getElem?_eq_some_iff.mp hr).1; have := R.len; omega
  obtain ⟨ns, hns⟩ := Option.isSome_iff_exists.mp ((Q.mem s).mp hm)
  obtain ⟨k0, t0, h0, l0, d0⟩ : ∃ k t, f k = some t ∧ lv S n now t = L ∧ t / S ^ L = s := by
    cases e : ns with
    | nil => exact (Q.ne s ns hns e).elim
    | cons k l =>
      obtain ⟨t, ht, h2⟩ := (Q.has k s).mp ⟨ns, hns, by rw [e]; exact List.mem_cons_self⟩
      obtain ⟨a, b⟩ := fil_some.mp ht
      exact ⟨k, t, a, b, by rw [← sp]; exact h2⟩
  have s0 : st S n now t0 = s * S ^ L := by unfold st; rw [l0, d0]
  have ge : ∀ k t, f k = some t → L ≤ lv S n now t := fun k t e => by
    rcases Nat.lt_or_ge (lv S n now t) L with z | z
    · obtain ⟨r', hr'⟩ := R.at (lv_le S n now t)
      have Q' := R.row _ _ hr'
      obtain ⟨ns', h1, h2⟩ := (Q'.has k (t / r'.span)).mpr ⟨t, fil_some.mpr ⟨e, rfl⟩, rfl⟩
      have := (Q'.mem (t / r'.span)).mpr (by rw [h1]; rfl)
      rw [low _ r' z hr'] at this
      cases this
    · exact z
  have p := pow_pos R.pS L
  have same : ∀ k t, f k = some t → lv S n now t = L → s ≤ t / S ^ L := fun k t e hl => by
    obtain ⟨ns', h1, h2⟩ := (Q.has k (t / r.span)).mpr ⟨t, fil_some.mpr ⟨e, hl⟩, rfl⟩
    have hx := (Q.mem (t / r.span)).mpr (by rw [h1]; rfl)
    rw [sp] at hx
    obtain ⟨j, hj, ej⟩ := List.mem_iff_getElem.mp hx
    obtain ⟨h00, es⟩ := List.getElem?_eq_some_iff.mp hs
    by_cases hj0 : j = 0
    · subst hj0
      omega
    · have := List.pairwise_iff_getElem.mp Q.srt 0 j h00 hj (by omega)
      omega
  refine ⟨hL, ⟨k0, t0, h0, l0, d0⟩, fun k t e => ?_, fun k t e => ⟨fun hst => ?_, fun ⟨hl, hd⟩ => by unfold st; rw [hl, hd]⟩⟩
  · rcases Nat.lt_or_ge L (lv S n now t) with z | z
    · have := lv_order R.pS (R.ahead k t e) (a := t0) (by rw [l0]; exact z)
      have := st_le R.pS n now t0
      omega
    · have hl : lv S n now t = L := Nat.le_antisymm z (ge k t e)
      have := same k t e hl
      unfold st
      rw [hl]
      exact Int.mul_le_mul_of_nonneg_right this (Int.le_of_lt p)
  · rw [← s0] at hst
    have hl := st_inj R.pS (R.ahead k t e) (R.ahead k0 t0 h0) hst
    rw [l0] at hl
    refine ⟨hl, ?_⟩
    unfold st at hst
    rw [hl, l0, d0] at hst
    exact Int.eq_of_mul_eq_mul_right (Int.ne_of_gt p) hst
end
end Rk
end
section
/-! A BOOK ON THE HEAP: which object stands where, by labels. -/
namespace Tb
open PySem L2 Mir Rk

/-! ### dicts by number -/
section
variable {α : Type}
def mapK (f : Int → α → V) (t : Dct α) : List (Key × V) := t.map fun p => (Sum.inl p.1, f p.1 p.2)
theorem valV_mapK (f : Int → α → V) (t : Dct α) (n : Int) : valV (mapK f t) (Sum.inl n) = (get t n).map (f n) := by
  induction t with
  | nil => rfl
  | cons p t ih =>
    show valV ((Sum.inl p.1, f p.1 p.2) :: mapK f t) (Sum.inl n) = _
    rw [get_cons]
    by_cases e : p.1 = n
    · rw [if_pos e, valV_pos (by rw [e])]
      rw [e]
      rfl
    · rw [if_neg e, valV_neg (fun z => e (Sum.inl.inj z)), ih]
theorem mapK_any (f : Int → α → V) (t : Dct α) (n : Int) : ((mapK f t).any fun kv => decide (kv.1 = Sum.inl n)) = t.any fun p => decide (p.1 = n) := by
  unfold mapK
  rw [List.any_map]
  congr 1
  funext p
  simp
theorem putK_mapK (f : Int → α → V) (t : Dct α) (n : Int) (a : α) : putK (mapK f t) (Sum.inl n) (f n a) = mapK f (put t n a) := by
  unfold putK put
  rw [mapK_any]
  by_cases h : (t.any fun p => decide (p.1 = n)) = true
  · rw [if_pos h, if_pos h]
    unfold mapK
    rw [List.map_map, List.map_map]
    apply List.map_congr_left
    intro p _
    by_cases e : p.1 = n
    · simp [e]
    · have : ¬ (Sum.inl p.1 : Key) = Sum.inl n := fun z => e (Sum.inl.inj z)
      simp [e]
  · rw [if_neg h, if_neg h]
    unfold mapK
    rw [List.map_append]
    rfl
theorem dropK_mapK (f : Int → α → V) (t : Dct α) (n : Int) : dropK (mapK f t) (Sum.inl n) = mapK f (drop t n) := by
  unfold dropK drop mapK
  rw [List.filter_map]
  congr 1
  apply List.filter_congr
  intro p _
  by_cases e : p.1 = n <;> simp [e]
theorem mapK_length (f : Int → α → V) (t : Dct α) : (mapK f t).length = t.length := List.length_map ..
end
/-- the numbers of a slot: a dict of truths -/
def numV (ns : List Int) : List (Key × V) := ns.map fun n => (Sum.inl n, V.bl true)
theorem numV_any (ns : List Int) (n : Int) : ((numV ns).any fun kv => decide (kv.1 = Sum.inl n)) = decide (n ∈ ns) := by
  induction ns with
  | nil => simp [numV]
  | cons a r ih =>
    show (decide ((Sum.inl a : Key) = Sum.inl n) || (numV r).any _) = _
    rw [ih]
    by_cases e : a = n
    · simp [e]
    · have e2 : ¬ n = a := fun z => e z.symm
      simp [e, e2]
theorem putK_numV (ns : List Int) (n : Int) : putK (numV ns) (Sum.inl n) (V.bl true) = numV (putN ns n) := by
  unfold putK putN
  rw [numV_any]
  by_cases h : n ∈ ns
  · rw [if_pos (by simpa using h), if_pos h]
    unfold numV
    rw [List.map_map]
    apply List.map_congr_left
    intro a _
    by_cases e : a = n <;> simp [e]
  · rw [if_neg (by simpa using h), if_neg h]
    unfold numV
    rw [List.map_append]
    rfl
/-! ### the book -/
/-- the classes -/
structure Cl where
  Row : Addr
  Rack : Addr
  Wheels : Addr
  Book : Addr
structure BkS where
  slots : Int
  spans : List Int
  rows : List RowS
  now : Int
  next : Int
  names : Dct Str
  steps : Dct (Option Int)
  ticks : Dct Int
  kept : Dct Int
inductive Lb where
  | book | rack | wheels | spans | rows | names | steps | ticks | kept
  | row (i : Nat) | filled (i : Nat) | rising (i : Nat)
  | slot (i : Nat) (s : Int)
deriving DecidableEq
def stepV : Option Int → V
  | none => .non
  | some k => .int k
def rowF (sp : Int) (df lr : Addr) : List (Str × V) := [("span", .int sp), ("filled", .ref df), ("rising", .ref lr)]
def rackF (wh rl : Addr) : List (Str × V) := [("wheels", .ref wh), ("rows", .ref rl)]
def wheelsF (s : Int) (tp : Addr) : List (Str × V) := [("slots", .int s), ("spans", .ref tp)]
def bookF (rk : Addr) (now next : Int) (nm st tk kp : Addr) : List (Str × V) := [("rack", .ref rk), ("now", .int now), ("next_number", .int next), ("names", .ref nm), ("steps", .ref st), ("ticks", .ref tk), ("kept_ticks", .ref kp)]
structure Adr where
  ad : Lb → Addr
  dx : Lb → Addr
abbrev Sl := Nat → Int → Addr
def loc (A : Adr) (sl : Sl) : Lb → Addr
  | .slot i s => sl i s
  | l => A.ad l
def fillV (sl : Sl) (i : Nat) (t : Dct (List Int)) : List (Key × V) := mapK (fun s _ => V.ref (sl i s)) t
def cont (c : Cl) (A : Adr) (sl : Sl) (B : BkS) : Lb → Option HO
  | .book => some (.ins c.Book (A.dx .book) (bookF (A.ad .rack) B.now B.next (A.ad .names) (A.ad .steps) (A.ad .ticks) (A.ad .kept)))
  | .rack => some (.ins c.Rack (A.dx .rack) (rackF (A.ad .wheels) (A.ad .rows)))
  | .wheels => some (.ins c.Wheels (A.dx .wheels) (wheelsF B.slots (A.ad .spans)))
  | .spans => some (.tup (B.spans.map V.int))
  | .rows => some (.lst ((List.range B.rows.length).map fun i => V.ref (A.ad (.row i))))
  | .names => some (.dK (mapK (fun _ x => V.str x) B.names))
  | .steps => some (.dK (mapK (fun _ x => stepV x) B.steps))
  | .ticks => some (.dK (mapK (fun _ x => V.int x) B.ticks))
  | .kept => some (.dK (mapK (fun _ x => V.int x) B.kept))
  | .row i => B.rows[i]?.map fun r => .ins c.Row (A.dx (.row i)) (rowF r.span (A.ad (.filled i)) (A.ad (.rising i)))
  | .filled i => B.rows[i]?.map fun r => .dK (fillV sl i r.filled)
  | .rising i => B.rows[i]?.map fun r => .lst (r.rising.map V.int)
  | .slot i s => B.rows[i]?.bind fun r => (get r.filled s).map fun ns => .dK (numV ns)
structure Bk (c : Cl) (A : Adr) (sl : Sl) (H0 H : Hp) (B : BkS) : Prop where
  same : Same H0 H
  free : ∀ l o, cont c A sl B l = some o → H0 (loc A sl l) = none
  here : ∀ l o, cont c A sl B l = some o → H (loc A sl l) = some o
  inj : ∀ l l' o o', cont c A sl B l = some o → cont c A sl B l' = some o' → loc A sl l = loc A sl l' → l = l'
section
variable {c : Cl} {A : Adr} {sl : Sl} {H0 H : Hp} {B : BkS}
theorem Bk.set (b : Bk c A sl H0 H B) {l : Lb} {o o' : HO} {B' : BkS} (hl : cont c A sl B l = some o) (e : cont c A sl B' l = some o') (e' : ∀ l', l' ≠ l → ∀ u, cont c A sl B' l' = some u → cont c A sl B l' = some u) :
    Bk c A sl H0 (upd H (loc A sl l) o') B' := by
  have back : ∀ l' u, cont c A sl B' l' = some u → ∃ v, cont c A sl B l' = some v := fun l' u h => by
    by_cases z : l' = l
    · exact ⟨o, z ▸ hl⟩
    · exact ⟨u, e' l' z u h⟩
  refine ⟨fun x u h => ?_, fun l' u h => ?_, fun l' u h => ?_, fun l1 l2 o1 o2 h1 h2 z => ?_⟩
  · have hn := b.free l o hl
    rw [upd_ne (fun z => by rw [z, hn] at h; cases h)]
    exact b.same x u h
  · obtain ⟨v, hv⟩ := back l' u h
    exact b.free l' v hv
  · by_cases z : l' = l
    · subst z
      rw [e] at h
      cases h
      exact upd_same
    · have hv := e' l' z u h
      rw [upd_ne (fun q => z (b.inj l' l u o hv hl q))]
      exact b.here l' u hv
  · obtain ⟨v1, hv1⟩ := back l1 o1 h1
    obtain ⟨v2, hv2⟩ := back l2 o2 h2
    exact b.inj l1 l2 v1 v2 hv1 hv2 z
theorem Bk.ne (b : Bk c A sl H0 H B) {l : Lb} {o : HO} (hl : cont c A sl B l = some o) {x : Addr} (hx : H x = none ∨ ∃ u, H0 x = some u) : loc A sl l ≠ x := fun z => by
  rcases hx with hx | ⟨u, hx⟩
  · have := b.here l o hl
    rw [z, hx] at this
    cases this
  · have := b.free l o hl
    rw [z, hx] at this
    cases this
/-- something else is laid or written, and is kept from now on -/
theorem Bk.out (b : Bk c A sl H0 H B) {x : Addr} {o : HO} (hx : H x = none ∨ ∃ u, H0 x = some u) : Bk c A sl (upd H0 x o) (upd H x o) B where
  same := fun y u h => by
    by_cases z : y = x
    · subst z
      rw [upd_same] at h
      rw [upd_same]
      exact h
    · rw [upd_ne z] at h
      rw [upd_ne z]
      exact b.same y u h
  free := fun l u h => by rw [upd_ne (b.ne h hx)]; exact b.free l u h
  here := fun l u h => by rw [upd_ne (b.ne h hx)]; exact b.here l u h
  inj := b.inj
theorem Bk.weak {H1 : Hp} (b : Bk c A sl H0 H B) (h : Same H1 H0) : Bk c A sl H1 H B where
  same := h.trans b.same
  free := fun l u q => h.free (b.free l u q)
  here := b.here
  inj := b.inj
theorem Same.upd {H : Hp} {x : Addr} {o : HO} (h : H x = none) : Same H (L2.upd H x o) := fun y u q => by
  rw [upd_ne (ne_of_none q h)]
  exact q
theorem Bk.temp (b : Bk c A sl H0 H B) {x : Addr} {o : HO} (hx : H x = none) : Bk c A sl H0 (upd H x o) B := (b.out (.inl hx)).weak (Same.upd (b.same.free hx))
/-- what is kept may grow by what stands there -/
theorem Bk.keep (b : Bk c A sl H0 H B) {x : Addr} {o : HO} (hx : H x = some o) (hn : ∀ l u, cont c A sl B l = some u → loc A sl l ≠ x) : Bk c A sl (upd H0 x o) H B where
  same := fun y u h => by
    by_cases z : y = x
    · subst z
      rw [upd_same] at h
      cases h
      exact hx
    · rw [upd_ne z] at h
      exact b.same y u h
  free := fun l u h => by rw [upd_ne (hn l u h)]; exact b.free l u h
  here := b.here
  inj := b.inj
/-- a new slot -/
def slput (sl : Sl) (i : Nat) (s : Int) (d : Addr) : Sl := fun i' s' => if i' = i ∧ s' = s then d else sl i' s'
theorem slput_same {sl : Sl} {i : Nat} {s : Int} {d : Addr} : slput sl i s d i s = d := by simp [slput]
def setRow (B : BkS) (i : Nat) (r : RowS) : BkS := { B with rows := B.rows.set i r }
theorem setRow_at {i j : Nat} {r r' : RowS} (h : B.rows[i]? = some r) : (setRow B i r').rows[j]? = if j = i then some r' else B.rows[j]? := by
  show (B.rows.set i r')[j]? = _
  have hl : i < B.rows.length := (List.getElem?_eq_some_iff.mp h).1
  rw [List.getElem?_set]
  by_cases e : i = j
  · subst e
    simp [hl]
  · have e2 : ¬ j = i := fun z => e z.symm
    simp [e, e2]
theorem fillV_slput {i j : Nat} {s : Int} {d : Addr} {t : Dct (List Int)} (h : j = i → get t s = none) : fillV (slput sl i s d) j t = fillV sl j t := by
  unfold fillV mapK
  apply List.map_congr_left
  intro p hp
  have : ¬ (j = i ∧ p.1 = s) := fun ⟨z1, z2⟩ => by
    have q := h z1
    rw [get_none] at q
    exact q (z2 ▸ List.mem_map.mpr ⟨p, hp, rfl⟩)
  simp [slput, this]
theorem Bk.newSlot (b : Bk c A sl H0 H B) {i : Nat} {r : RowS} {s : Int} {d : Addr} (hr : B.rows[i]? = some r) (hs : get r.filled s = none) (hd : H d = none) :
    Bk c A (slput sl i s d) H0 (upd (upd H d (.dK [])) (A.ad (.filled i)) (.dK (putK (fillV sl i r.filled) (Sum.inl s) (.ref d)))) (setRow B i { r with filled := put r.filled s [] }) := by
  have hlen : (B.rows.set i { r with filled := put r.filled s [] }).length = B.rows.length := List.length_set ..
  have eF : putK (fillV sl i r.filled) (Sum.inl s) (.ref d) = fillV (slput sl i s d) i (put r.filled s []) := by
    have : fillV sl i r.filled = fillV (slput sl i s d) i r.filled := (fillV_slput (fun _ => hs)).symm
    rw [this]
    unfold fillV
    rw [← putK_mapK, slput_same]
  have hF : cont c A sl B (.filled i) = some (.dK (fillV sl i r.filled)) := by show B.rows[i]?.map _ = _; rw [hr]; rfl
  have nd : ∀ l o, cont c A sl B l = some o → loc A sl l ≠ d := fun l o h => b.ne h (.inl hd)
  -- what each label has now
  have old : ∀ l o, l ≠ .filled i → l ≠ .slot i s → cont c A (slput sl i s d) (setRow B i { r with filled := put r.filled s [] }) l = some o → cont c A sl B l = some o ∧ loc A (slput sl i s d) l = loc A sl l := by
    intro l o h1 h2 h
    cases l with
    | row j =>
      refine ⟨?_, rfl⟩
      have h' : ((setRow B i { r with filled := put r.filled s [] }).rows[j]?).map _ = some o := h
      rw [setRow_at hr] at h'
      by_cases e : j = i
      · subst e
        rw [if_pos rfl] at h'
        show B.rows[j]?.map _ = _
        rw [hr]
        exact h'
      · rw [if_neg e] at h'
        exact h'
    | filled j =>
      have e : ¬ j = i := fun z => h1 (by rw [z])
      refine ⟨?_, rfl⟩
      have h' : ((setRow B i { r with filled := put r.filled s [] }).rows[j]?).map (fun r => HO.dK (fillV (slput sl i s d) j r.filled)) = some o := h
      rw [setRow_at hr, if_neg e] at h'
      show B.rows[j]?.map _ = _
      rw [← h']
      congr 1
      funext r'
      rw [fillV_slput (fun z => (e z).elim)]
    | rising j =>
      refine ⟨?_, rfl⟩
      have h' : ((setRow B i { r with filled := put r.filled s [] }).rows[j]?).map (fun r => HO.lst (r.rising.map V.int)) = some o := h
      rw [setRow_at hr] at h'
      by_cases e : j = i
      · subst e
        rw [if_pos rfl] at h'
        show B.rows[j]?.map _ = _
        rw [hr]
        exact h'
      · rw [if_neg e] at h'
        exact h'
    | slot j x =>
      have e : ¬ (j = i ∧ x = s) := fun z => h2 (by rw [z.1, z.2])
      refine ⟨?_, by show slput sl i s d j x = sl j x; simp [slput, e]⟩
      have h' : ((setRow B i { r with filled := put r.filled s [] }).rows[j]?).bind (fun r => (get r.filled x).map fun ns => HO.dK (numV ns)) = some o := h
      rw [setRow_at hr] at h'
      by_cases ej : j = i
      · subst ej
        rw [if_pos rfl] at h'
        have ex : ¬ x = s := fun z => e ⟨rfl, z⟩
        have h'' : (get (put r.filled s []) x).map (fun ns => HO.dK (numV ns)) = some o := h'
        rw [get_put, if_neg ex] at h''
        show B.rows[j]?.bind _ = _
        rw [hr]
        exact h''
      · rw [if_neg ej] at h'
        exact h'
    | rows =>
      refine ⟨?_, rfl⟩
      have h' : some (HO.lst ((List.range (B.rows.set i { r with filled := put r.filled s [] }).length).map fun i => V.ref (A.ad (.row i)))) = some o := h
      rw [hlen] at h'
      exact h'
    | book => exact ⟨h, rfl⟩
    | rack => exact ⟨h, rfl⟩
    | wheels => exact ⟨h, rfl⟩
    | spans => exact ⟨h, rfl⟩
    | names => exact ⟨h, rfl⟩
    | steps => exact ⟨h, rfl⟩
    | ticks => exact ⟨h, rfl⟩
    | kept => exact ⟨h, rfl⟩
  have nF : A.ad (.filled i) ≠ d := nd _ _ hF
  have lS : loc A (slput sl i s d) (.slot i s) = d := slput_same
  have lF : loc A (slput sl i s d) (.filled i) = loc A sl (.filled i) := rfl
  have all : ∀ l o, cont c A (slput sl i s d) (setRow B i { r with filled := put r.filled s [] }) l = some o → l = .slot i s ∨ ∃ o', cont c A sl B l = some o' ∧ loc A (slput sl i s d) l = loc A sl l := fun l o h => by
    by_cases h1 : l = .slot i s
    · exact .inl h1
    · by_cases h2 : l = .filled i
      · subst h2
        exact .inr ⟨_, hF, rfl⟩
      · exact .inr ⟨o, old l o h2 h1 h⟩
  refine ⟨fun x u h => ?_, fun l o h => ?_, fun l o h => ?_, fun l1 l2 o1 o2 h1 h2 z => ?_⟩
  · have q := b.same x u h
    have n1 : x ≠ A.ad (.filled i) := fun z => by
      have := b.free _ _ hF
      rw [show loc A sl (.filled i) = A.ad (.filled i) from rfl, ← z, h] at this
      cases this
    rw [upd_ne n1, upd_ne (ne_of_none q hd)]
    exact q
  · rcases all l o h with rfl | ⟨o', ho, e⟩
    · rw [lS]
      exact b.same.free hd
    · rw [e]
      exact b.free l o' ho
  · by_cases h1 : l = .slot i s
    · subst h1
      rw [lS, upd_ne (Ne.symm nF), upd_same]
      have h' : ((setRow B i { r with filled := put r.filled s [] }).rows[i]?).bind (fun r => (get r.filled s).map fun ns => HO.dK (numV ns)) = some o := h
      rw [setRow_at hr, if_pos rfl] at h'
      have h'' : (get (put r.filled s []) s).map (fun ns => HO.dK (numV ns)) = some o := h'
      rw [get_put, if_pos rfl] at h''
      exact h''
    · by_cases h2 : l = .filled i
      · subst h2
        have h' : ((setRow B i { r with filled := put r.filled s [] }).rows[i]?).map (fun r => HO.dK (fillV (slput sl i s d) i r.filled)) = some o := h
        rw [setRow_at hr, if_pos rfl] at h'
        show upd _ (A.ad (.filled i)) _ (A.ad (.filled i)) = some o
        rw [upd_same, eF]
        exact h'
      · obtain ⟨ho, e⟩ := old l o h2 h1 h
        rw [e, upd_ne (show loc A sl l ≠ A.ad (.filled i) from fun z => h2 (b.inj l (.filled i) o _ ho hF z)), upd_ne (nd l o ho)]
        exact b.here l o ho
  · rcases all l1 o1 h1 with rfl | ⟨p1, q1, e1⟩
    · rcases all l2 o2 h2 with rfl | ⟨p2, q2, e2⟩
      · rfl
      · rw [lS, e2] at z
        exact (nd l2 p2 q2 z.symm).elim
    · rcases all l2 o2 h2 with rfl | ⟨p2, q2, e2⟩
      · rw [lS, e1] at z
        exact (nd l1 p1 q1 z).elim
      · rw [e1, e2] at z
        exact b.inj l1 l2 p1 p2 q1 q2 z
/-! ### writes -/
theorem Bk.wNow (b : Bk c A sl H0 H B) (x : Int) : Bk c A sl H0 (upd H (A.ad .book) (.ins c.Book (A.dx .book) (bookF (A.ad .rack) x B.next (A.ad .names) (A.ad .steps) (A.ad .ticks) (A.ad .kept)))) { B with now := x } :=
  b.set (l := .book) rfl rfl fun l' hl u h => by cases l' <;> first | exact h | exact absurd rfl hl
theorem Bk.wNext (b : Bk c A sl H0 H B) (x : Int) : Bk c A sl H0 (upd H (A.ad .book) (.ins c.Book (A.dx .book) (bookF (A.ad .rack) B.now x (A.ad .names) (A.ad .steps) (A.ad .ticks) (A.ad .kept)))) { B with next := x } :=
  b.set (l := .book) rfl rfl fun l' hl u h => by cases l' <;> first | exact h | exact absurd rfl hl
theorem Bk.wNames (b : Bk c A sl H0 H B) (x : Dct Str) : Bk c A sl H0 (upd H (A.ad .names) (.dK (mapK (fun _ x => V.str x) x))) { B with names := x } :=
  b.set (l := .names) rfl rfl fun l' hl u h => by cases l' <;> first | exact h | exact absurd rfl hl
theorem Bk.wSteps (b : Bk c A sl H0 H B) (x : Dct (Option Int)) : Bk c A sl H0 (upd H (A.ad .steps) (.dK (mapK (fun _ x => stepV x) x))) { B with steps := x } :=
  b.set (l := .steps) rfl rfl fun l' hl u h => by cases l' <;> first | exact h | exact absurd rfl hl
theorem Bk.wTicks (b : Bk c A sl H0 H B) (x : Dct Int) : Bk c A sl H0 (upd H (A.ad .ticks) (.dK (mapK (fun _ x => V.int x) x))) { B with ticks := x } :=
  b.set (l := .ticks) rfl rfl fun l' hl u h => by cases l' <;> first | exact h | exact absurd rfl hl
/-- what a row's own labels have when one row is another -/
theorem cont_setRow {i : Nat} {r r' : RowS} {l : Lb} {u : HO} (hr : B.rows[i]? = some r) (h : cont c A sl (setRow B i r') l = some u)
    (h1 : l = .row i → r'.span = r.span) (h2 : l = .filled i → fillV sl i r'.filled = fillV sl i r.filled) (h3 : l = .rising i → r'.rising = r.rising) (h4 : ∀ s ns, l = .slot i s → get r'.filled s = some ns → get r.filled s = some ns) : cont c A sl B l = some u := by
  cases l with
  | row j =>
    have h' : ((setRow B i r').rows[j]?).map _ = some u := h
    rw [setRow_at hr] at h'
    by_cases e : j = i
    · subst e
      rw [if_pos rfl] at h'
      show B.rows[j]?.map _ = _
      rw [hr, ← h']
      show some (HO.ins c.Row (A.dx (.row j)) (rowF r.span (A.ad (.filled j)) (A.ad (.rising j)))) = some (HO.ins c.Row (A.dx (.row j)) (rowF r'.span (A.ad (.filled j)) (A.ad (.rising j))))
      rw [h1 rfl]
    · rw [if_neg e] at h'
      exact h'
  | filled j =>
    have h' : ((setRow B i r').rows[j]?).map (fun r => HO.dK (fillV sl j r.filled)) = some u := h
    rw [setRow_at hr] at h'
    by_cases e : j = i
    · subst e
      rw [if_pos rfl] at h'
      show B.rows[j]?.map (fun r => HO.dK (fillV sl j r.filled)) = _
      rw [hr, ← h']
      show some (HO.dK (fillV sl j r.filled)) = some (HO.dK (fillV sl j r'.filled))
      rw [h2 rfl]
    · rw [if_neg e] at h'
      exact h'
  | rising j =>
    have h' : ((setRow B i r').rows[j]?).map (fun r => HO.lst (r.rising.map V.int)) = some u := h
    rw [setRow_at hr] at h'
    by_cases e : j = i
    · subst e
      rw [if_pos rfl] at h'
      show B.rows[j]?.map (fun r => HO.lst (r.rising.map V.int)) = _
      rw [hr, ← h']
      show some (HO.lst (r.rising.map V.int)) = some (HO.lst (r'.rising.map V.int))
      rw [h3 rfl]
    · rw [if_neg e] at h'
      exact h'
  | slot j x =>
    have h' : ((setRow B i r').rows[j]?).bind (fun r => (get r.filled x).map fun ns => HO.dK (numV ns)) = some u := h
    rw [setRow_at hr] at h'
    by_cases e : j = i
    · subst e
      rw [if_pos rfl] at h'
      have h'' : (get r'.filled x).map (fun ns => HO.dK (numV ns)) = some u := h'
      cases q : get r'.filled x with
      | none => rw [q] at h''; cases h''
      | some ns =>
        show B.rows[j]?.bind _ = _
        rw [hr]
        show (get r.filled x).map (fun ns => HO.dK (numV ns)) = some u
        rw [h4 x ns rfl q, ← h'', q]
    · rw [if_neg e] at h'
      exact h'
  | rows =>
    have h' : some (HO.lst ((List.range (B.rows.set i r').length).map fun i => V.ref (A.ad (.row i)))) = some u := h
    rw [List.length_set] at h'
    exact h'
  | book => exact h
  | rack => exact h
  | wheels => exact h
  | spans => exact h
  | names => exact h
  | steps => exact h
  | ticks => exact h
  | kept => exact h
theorem cont_row {i : Nat} {r : RowS} (hr : B.rows[i]? = some r) : cont c A sl B (.row i) = some (.ins c.Row (A.dx (.row i)) (rowF r.span (A.ad (.filled i)) (A.ad (.rising i)))) := by show B.rows[i]?.map _ = _; rw [hr]; rfl
theorem cont_filled {i : Nat} {r : RowS} (hr : B.rows[i]? = some r) : cont c A sl B (.filled i) = some (.dK (fillV sl i r.filled)) := by show B.rows[i]?.map _ = _; rw [hr]; rfl
theorem cont_rising {i : Nat} {r : RowS} (hr : B.rows[i]? = some r) : cont c A sl B (.rising i) = some (.lst (r.rising.map V.int)) := by show B.rows[i]?.map _ = _; rw [hr]; rfl
theorem cont_slot {i : Nat} {r : RowS} {s : Int} {ns : List Int} (hr : B.rows[i]? = some r) (hs : get r.filled s = some ns) : cont c A sl B (.slot i s) = some (.dK (numV ns)) := by
  show B.rows[i]?.bind _ = _
  rw [hr]
  show (get r.filled s).map _ = _
  rw [hs]
  rfl
theorem rows_set {i : Nat} {r r' : RowS} (hr : B.rows[i]? = some r) : (setRow B i r').rows[i]? = some r' := by rw [setRow_at hr, if_pos rfl]
theorem Bk.wRising (b : Bk c A sl H0 H B) {i : Nat} {r : RowS} (hr : B.rows[i]? = some r) (l : List Int) : Bk c A sl H0 (upd H (A.ad (.rising i)) (.lst (l.map V.int))) (setRow B i { r with rising := l }) :=
  b.set (l := .rising i) (cont_rising hr) (cont_rising (rows_set hr)) fun l' hl u h => cont_setRow hr h (fun _ => rfl) (fun _ => rfl) (fun z => (hl z).elim) fun _ _ _ q => q
theorem fillV_put {i : Nat} {t : Dct (List Int)} {s : Int} {ns : List Int} (h : (get t s).isSome = true) : fillV sl i (put t s ns) = fillV sl i t := by
  unfold put
  rw [any_iff, if_pos h]
  unfold fillV mapK
  rw [List.map_map]
  apply List.map_congr_left
  intro p _
  by_cases e : p.1 = s <;> simp [e]
theorem Bk.wSlot (b : Bk c A sl H0 H B) {i : Nat} {r : RowS} {s : Int} {ns : List Int} (hr : B.rows[i]? = some r) (hs : get r.filled s = some ns) (ns' : List Int) : Bk c A sl H0 (upd H (sl i s) (.dK (numV ns'))) (setRow B i (setSlot r s ns')) :=
  b.set (l := .slot i s) (cont_slot hr hs) (cont_slot (rows_set hr) (by show get (put r.filled s ns') s = _; rw [get_put, if_pos rfl])) fun l' hl u h =>
    cont_setRow hr h (fun _ => rfl) (fun _ => fillV_put (by rw [hs]; rfl)) (fun _ => rfl) fun x ms z q => by
      have q' : get (put r.filled s ns') x = some ms := q
      rw [get_put, if_neg (fun e => hl (by rw [z, e]))] at q'
      exact q'
theorem Bk.dropSlot (b : Bk c A sl H0 H B) {i : Nat} {r : RowS} (hr : B.rows[i]? = some r) (s : Int) : Bk c A sl H0 (upd H (A.ad (.filled i)) (.dK (dropK (fillV sl i r.filled) (Sum.inl s)))) (setRow B i { r with filled := drop r.filled s }) := by
  have e : dropK (fillV sl i r.filled) (Sum.inl s) = fillV sl i (drop r.filled s) := dropK_mapK _ _ _
  rw [e]
  refine b.set (l := .filled i) (cont_filled hr) (cont_filled (rows_set hr)) fun l' hl u h => cont_setRow hr h (fun _ => rfl) (fun z => (hl z).elim) (fun _ => rfl) fun x ms _ q => ?_
  have q' : get (drop r.filled s) x = some ms := q
  rw [get_drop] at q'
  by_cases z : x = s
  · rw [if_pos z] at q'; cases q'
  · rw [if_neg z] at q'; exact q'
theorem setRow_setRow {i : Nat} {r r' : RowS} : setRow (setRow B i r) i r' = setRow B i r' := by
  unfold setRow
  congr 1
  exact List.set_set ..
/-! ### reads -/
theorem Bk.book (b : Bk c A sl H0 H B) : H (A.ad .book) = some (.ins c.Book (A.dx .book) (bookF (A.ad .rack) B.now B.next (A.ad .names) (A.ad .steps) (A.ad .ticks) (A.ad .kept))) := b.here .book _ rfl
theorem Bk.rack (b : Bk c A sl H0 H B) : H (A.ad .rack) = some (.ins c.Rack (A.dx .rack) (rackF (A.ad .wheels) (A.ad .rows))) := b.here .rack _ rfl
theorem Bk.wheels (b : Bk c A sl H0 H B) : H (A.ad .wheels) = some (.ins c.Wheels (A.dx .wheels) (wheelsF B.slots (A.ad .spans))) := b.here .wheels _ rfl
theorem Bk.spans (b : Bk c A sl H0 H B) : H (A.ad .spans) = some (.tup (B.spans.map V.int)) := b.here .spans _ rfl
theorem Bk.rows (b : Bk c A sl H0 H B) : H (A.ad .rows) = some (.lst ((List.range B.rows.length).map fun i => V.ref (A.ad (.row i)))) := b.here .rows _ rfl
theorem Bk.names (b : Bk c A sl H0 H B) : H (A.ad .names) = some (.dK (mapK (fun _ x => V.str x) B.names)) := b.here .names _ rfl
theorem Bk.steps (b : Bk c A sl H0 H B) : H (A.ad .steps) = some (.dK (mapK (fun _ x => stepV x) B.steps)) := b.here .steps _ rfl
theorem Bk.ticks (b : Bk c A sl H0 H B) : H (A.ad .ticks) = some (.dK (mapK (fun _ x => V.int x) B.ticks)) := b.here .ticks _ rfl
theorem Bk.kept (b : Bk c A sl H0 H B) : H (A.ad .kept) = some (.dK (mapK (fun _ x => V.int x) B.kept)) := b.here .kept _ rfl
theorem Bk.row (b : Bk c A sl H0 H B) {i : Nat} {r : RowS} (hr : B.rows[i]? = some r) : H (A.ad (.row i)) = some (.ins c.Row (A.dx (.row i)) (rowF r.span (A.ad (.filled i)) (A.ad (.rising i)))) := b.here (.row i) _ (cont_row hr)
theorem Bk.filled (b : Bk c A sl H0 H B) {i : Nat} {r : RowS} (hr : B.rows[i]? = some r) : H (A.ad (.filled i)) = some (.dK (fillV sl i r.filled)) := b.here (.filled i) _ (cont_filled hr)
theorem Bk.rising (b : Bk c A sl H0 H B) {i : Nat} {r : RowS} (hr : B.rows[i]? = some r) : H (A.ad (.rising i)) = some (.lst (r.rising.map V.int)) := b.here (.rising i) _ (cont_rising hr)
theorem Bk.slot (b : Bk c A sl H0 H B) {i : Nat} {r : RowS} {s : Int} {ns : List Int} (hr : B.rows[i]? = some r) (hs : get r.filled s = some ns) : H (sl i s) = some (.dK (numV ns)) := b.here (.slot i s) _ (cont_slot hr hs)
end
section
variable {c : Cl} {A : Adr} {sl : Sl} {H0 H : Hp} {B : BkS}
theorem fillV_val {i : Nat} {t : Dct (List Int)} {s : Int} : valV (fillV sl i t) (Sum.inl s) = (get t s).map fun _ => V.ref (sl i s) := valV_mapK _ _ _
theorem Bk.getF (b : Bk c A sl H0 H B) {i : Nat} {r : RowS} {s : Int} {ns : List Int} (hr : B.rows[i]? = some r) (hs : get r.filled s = some ns) : DGet H (A.ad (.filled i)) (.int s) (some (.ref (sl i s))) := by
  have := DGet.k (k := Sum.inl s) (b.filled hr)
  rw [fillV_val, hs] at this
  exact this
theorem Bk.putS (b : Bk c A sl H0 H B) {i : Nat} {r : RowS} {s n : Int} {ns : List Int} (hr : B.rows[i]? = some r) (hs : get r.filled s = some ns) (hl : ns.length < sizeLine) : DPut H (sl i s) (.int n) (.bl true) (upd H (sl i s) (.dK (numV (putN ns n)))) := by
  have := DPut.k (k := Sum.inl n) (v := .bl true) (b.slot hr hs) (by unfold numV; rw [List.length_map]; exact hl)
  rw [putK_numV] at this
  exact this
end
end Tb
end
section
/-! WHAT A BOOK TELLS: who waits, who rests, and what holds of its dicts. -/
namespace Tb
open PySem L2 Mir Rk
def alarm (nm : Option Str) (sp : Option (Option Int)) (t : Option Int) : Option (Al Str) := t.bind fun t => nm.bind fun x => sp.map fun s => ⟨x, t, s⟩
def wait (B : BkS) : Fn Str := fun k => alarm (get B.names k) (get B.steps k) (get B.ticks k)
def rest (B : BkS) : Fn Str := fun k => alarm (get B.names k) (get B.steps k) (get B.kept k)
structure Out (B : BkS) : Prop where
  ndT : (keys B.ticks).Nodup
  ndK : (keys B.kept).Nodup
  ndN : (keys B.names).Nodup
  ndS : (keys B.steps).Nodup
  nx : 0 ≤ B.next ∧ B.next ≤ 63
  dom : ∀ k, (get B.names k).isSome = true → 0 ≤ k ∧ k < B.next
  nm : ∀ k, (get B.names k).isSome = ((get B.ticks k).isSome || (get B.kept k).isSome)
  st : ∀ k, (get B.steps k).isSome = (get B.names k).isSome
  pos : ∀ k s, get B.steps k = some (some s) → 1 ≤ s
  dis : ∀ k, (get B.ticks k).isSome = true → get B.kept k = none
  kp : ∀ k t, get B.kept k = some t → 0 < t
theorem len_dom {α : Type} {t : Dct α} (nd : (keys t).Nodup) {N : Nat} (h : ∀ k, (get t k).isSome = true → 0 ≤ k ∧ k < N) : t.length ≤ N := by
  have q := nd.length_le_of_subset (l₂ := (List.range N).map (fun (i : Nat) => (i : Int))) fun k hk => by
    have hs : (get t k).isSome = true := by
      cases e : get t k with
      | none => exact (get_none.mp e hk).elim
      | some v => rfl
    obtain ⟨a, b⟩ := h k hs
    exact List.mem_map.mpr ⟨k.toNat, List.mem_range.mpr (by omega), by omega⟩
  simpa [keys] using q
section
variable {B : BkS}
theorem Out.namesT (o : Out B) {k : Int} (h : (get B.ticks k).isSome = true) : (get B.names k).isSome = true := by rw [o.nm, h]; rfl
theorem Out.namesK (o : Out B) {k : Int} (h : (get B.kept k).isSome = true) : (get B.names k).isSome = true := by rw [o.nm, h]; simp
theorem Out.domT (o : Out B) {k t : Int} (h : get B.ticks k = some t) : 0 ≤ k ∧ k < B.next := o.dom k (o.namesT (by rw [h]; rfl))
theorem Out.lens (o : Out B) : B.ticks.length ≤ 63 ∧ B.kept.length ≤ 63 ∧ B.names.length ≤ 63 ∧ B.steps.length ≤ 63 := by
  have n := o.nx
  refine ⟨len_dom o.ndT fun k h => ?_, len_dom o.ndK fun k h => ?_, len_dom o.ndN fun k h => ?_, len_dom o.ndS fun k h => ?_⟩
  · have := o.dom k (o.namesT h); omega
  · have := o.dom k (o.namesK h); omega
  · have := o.dom k h; omega
  · have := o.dom k (by rw [← o.st]; exact h); omega
theorem Out.at (o : Out B) {k : Int} (h : (get B.names k).isSome = true) : ∃ nm sp, get B.names k = some nm ∧ get B.steps k = some sp := by
  obtain ⟨nm, e1⟩ := Option.isSome_iff_exists.mp h
  obtain ⟨sp, e2⟩ := Option.isSome_iff_exists.mp (by rw [o.st]; exact h : (get B.steps k).isSome = true)
  exact ⟨nm, sp, e1, e2⟩
theorem Out.waits (o : Out B) {k t : Int} (h : get B.ticks k = some t) : ∃ nm sp, get B.names k = some nm ∧ get B.steps k = some sp ∧ wait B k = some ⟨nm, t, sp⟩ := by
  obtain ⟨nm, sp, e1, e2⟩ := o.at (o.namesT (by rw [h]; rfl))
  exact ⟨nm, sp, e1, e2, by unfold wait; rw [h, e1, e2]; rfl⟩
theorem Out.rests (o : Out B) {k t : Int} (h : get B.kept k = some t) : ∃ nm sp, get B.names k = some nm ∧ get B.steps k = some sp ∧ rest B k = some ⟨nm, t, sp⟩ := by
  obtain ⟨nm, sp, e1, e2⟩ := o.at (o.namesK (by rw [h]; rfl))
  exact ⟨nm, sp, e1, e2, by unfold rest; rw [h, e1, e2]; rfl⟩
theorem alarm_some {nm : Option Str} {sp : Option (Option Int)} {t : Option Int} {a : Al Str} : alarm nm sp t = some a ↔ nm = some a.name ∧ sp = some a.step ∧ t = some a.tick := by
  unfold alarm
  cases t with
  | none => simp
  | some t =>
    cases nm with
    | none => simp
    | some x =>
      cases sp with
      | none => simp
      | some s =>
        obtain ⟨n', t', s'⟩ := a
        simp
        exact fun _ => And.comm
theorem Out.tick_of (o : Out B) (k : Int) : (wait B k).map (·.tick) = get B.ticks k := by
  cases e : get B.ticks k with
  | none => unfold wait; rw [e]; rfl
  | some t => obtain ⟨nm, sp, _, _, w⟩ := o.waits e; rw [w]; rfl
theorem Out.good (o : Out B) : GoodF 63 (wait B) := fun n a h => by
  obtain ⟨h1, h2, h3⟩ := alarm_some.mp h
  have := o.domT h3
  have n := o.nx
  exact ⟨by omega, fun k hk => by have := o.pos _ k (by rw [h2, hk]); omega⟩
/-- a new alarm -/
def setB (B : BkS) (name : Str) (due : Int) (step : Option Int) : BkS := { B with next := B.next + 1, names := put B.names B.next name, steps := put B.steps B.next step, ticks := put B.ticks B.next due }
theorem Out.fresh (o : Out B) : get B.names B.next = none ∧ get B.steps B.next = none ∧ get B.ticks B.next = none ∧ get B.kept B.next = none := by
  have h : get B.names B.next = none := by
    cases e : get B.names B.next with
    | none => rfl
    | some v => have := o.dom B.next (by rw [e]; rfl); omega
  have h2 := o.st B.next
  have h3 := o.nm B.next
  rw [h] at h2 h3
  refine ⟨h, by simpa using h2, ?_, ?_⟩
  · cases e : get B.ticks B.next with
    | none => rfl
    | some v => rw [e] at h3; simp at h3
  · cases e : get B.kept B.next with
    | none => rfl
    | some v => rw [e] at h3; simp at h3
theorem Out.setB (o : Out B) (hn : B.next < 63) {name : Str} {due : Int} {step : Option Int} (hs : ∀ s, step = some s → 1 ≤ s) : Out (setB B name due step) where
  ndT := nodup_put o.ndT _ _
  ndK := o.ndK
  ndN := nodup_put o.ndN _ _
  ndS := nodup_put o.ndS _ _
  nx := by have := o.nx; exact ⟨by show 0 ≤ B.next + 1; omega, by show B.next + 1 ≤ 63; omega⟩
  dom := fun k h => by
    have h' : (get (put B.names B.next name) k).isSome = true := h
    show 0 ≤ k ∧ k < B.next + 1
    rw [get_put] at h'
    have := o.nx
    by_cases e : k = B.next
    · omega
    · rw [if_neg e] at h'
      have := o.dom k h'
      omega
  nm := fun k => by
    show (get (put B.names B.next name) k).isSome = ((get (put B.ticks B.next due) k).isSome || (get B.kept k).isSome)
    rw [get_put, get_put]
    by_cases e : k = B.next
    · simp [e]
    · rw [if_neg e, if_neg e]; exact o.nm k
  st := fun k => by
    show (get (put B.steps B.next step) k).isSome = (get (put B.names B.next name) k).isSome
    rw [get_put, get_put]
    by_cases e : k = B.next
    · simp [e]
    · rw [if_neg e, if_neg e]; exact o.st k
  pos := fun k s h => by
    have h' : get (put B.steps B.next step) k = some (some s) := h
    rw [get_put] at h'
    by_cases e : k = B.next
    · rw [if_pos e] at h'; exact hs s (Option.some.inj h')
    · rw [if_neg e] at h'; exact o.pos k s h'
  dis := fun k h => by
    have h' : (get (put B.ticks B.next due) k).isSome = true := h
    rw [get_put] at h'
    by_cases e : k = B.next
    · rw [e]; exact o.fresh.2.2.2
    · rw [if_neg e] at h'; exact o.dis k h'
  kp := o.kp
theorem Out.wait_setB (o : Out B) {name : Str} {due : Int} {step : Option Int} : wait (Tb.setB B name due step) = fput (wait B) B.next (some ⟨name, due, step⟩) := by
  funext k
  show alarm (get (put B.names B.next name) k) (get (put B.steps B.next step) k) (get (put B.ticks B.next due) k) = _
  rw [get_put, get_put, get_put]
  unfold fput
  by_cases e : k = B.next
  · simp [e, alarm]
  · simp only [if_neg e]
    rfl
theorem Out.rest_setB (o : Out B) {name : Str} {due : Int} {step : Option Int} : rest (Tb.setB B name due step) = rest B := by
  funext k
  show alarm (get (put B.names B.next name) k) (get (put B.steps B.next step) k) (get B.kept k) = alarm (get B.names k) (get B.steps k) (get B.kept k)
  rw [get_put, get_put]
  by_cases e : k = B.next
  · rw [e, o.fresh.2.2.2]
    rfl
  · rw [if_neg e, if_neg e]
/-- it rings -/
def ringB (B : BkS) (k : Int) : Option Int → BkS
  | none => { B with ticks := drop B.ticks k, steps := drop B.steps k, names := drop B.names k }
  | some s => { B with ticks := put B.ticks k (B.now + s) }
theorem Out.ringB (o : Out B) {k t : Int} {sp : Option Int} (ht : get B.ticks k = some t) (hs : get B.steps k = some sp) : Out (ringB B k sp) := by
  have hk : get B.kept k = none := o.dis k (by rw [ht]; rfl)
  cases sp with
  | none =>
    refine ⟨nodup_drop o.ndT _, o.ndK, nodup_drop o.ndN _, nodup_drop o.ndS _, o.nx, fun m h => ?_, fun m => ?_, fun m => ?_, fun m s h => ?_, fun m h => ?_, o.kp⟩
    · have h' : (get (drop B.names k) m).isSome = true := h
      rw [get_drop] at h'
      by_cases e : m = k
      · rw [if_pos e] at h'; cases h'
      · rw [if_neg e] at h'; exact o.dom m h'
    · show (get (drop B.names k) m).isSome = ((get (drop B.ticks k) m).isSome || (get B.kept m).isSome)
      rw [get_drop, get_drop]
      by_cases e : m = k
      · rw [if_pos e, if_pos e, e, hk]; rfl
      · rw [if_neg e, if_neg e]; exact o.nm m
    · show (get (drop B.steps k) m).isSome = (get (drop B.names k) m).isSome
      rw [get_drop, get_drop]
      by_cases e : m = k
      · rw [if_pos e, if_pos e]; rfl
      · rw [if_neg e, if_neg e]; exact o.st m
    · have h' : get (drop B.steps k) m = some (some s) := h
      rw [get_drop] at h'
      by_cases e : m = k
      · rw [if_pos e] at h'; cases h'
      · rw [if_neg e] at h'; exact o.pos m s h'
    · have h' : (get (drop B.ticks k) m).isSome = true := h
      rw [get_drop] at h'
      by_cases e : m = k
      · rw [if_pos e] at h'; cases h'
      · rw [if_neg e] at h'; exact o.dis m h'
  | some s =>
    refine ⟨nodup_put o.ndT _ _, o.ndK, o.ndN, o.ndS, o.nx, o.dom, fun m => ?_, o.st, o.pos, fun m h => ?_, o.kp⟩
    · show (get B.names m).isSome = ((get (put B.ticks k (B.now + s)) m).isSome || (get B.kept m).isSome)
      rw [get_put]
      by_cases e : m = k
      · rw [if_pos e, e, o.namesT (by rw [ht]; rfl)]; rfl
      · rw [if_neg e]; exact o.nm m
    · have h' : (get (put B.ticks k (B.now + s)) m).isSome = true := h
      rw [get_put] at h'
      by_cases e : m = k
      · rw [e]; exact hk
      · rw [if_neg e] at h'; exact o.dis m h'
theorem Out.wait_ringB (o : Out B) {k : Int} {sp : Option Int} {nm : Str} (ht : get B.ticks k = some B.now) (hs : get B.steps k = some sp) (hn : get B.names k = some nm) : wait (Tb.ringB B k sp) = fput (wait B) k (after ⟨nm, B.now, sp⟩) := by
  funext m
  cases sp with
  | none =>
    show alarm (get (drop B.names k) m) (get (drop B.steps k) m) (get (drop B.ticks k) m) = _
    rw [get_drop, get_drop, get_drop]
    unfold fput
    by_cases e : m = k
    · simp [e, alarm, after]
    · simp only [if_neg e]; rfl
  | some s =>
    show alarm (get B.names m) (get B.steps m) (get (put B.ticks k (B.now + s)) m) = _
    rw [get_put]
    unfold fput
    by_cases e : m = k
    · subst e
      simp [alarm, after, hs, hn]
    · simp only [if_neg e]; rfl
theorem Out.rest_ringB (o : Out B) {k t : Int} {sp : Option Int} (ht : get B.ticks k = some t) : rest (Tb.ringB B k sp) = rest B := by
  have hk : get B.kept k = none := o.dis k (by rw [ht]; rfl)
  cases sp with
  | none =>
    funext m
    show alarm (get (drop B.names k) m) (get (drop B.steps k) m) (get B.kept m) = alarm (get B.names m) (get B.steps m) (get B.kept m)
    rw [get_drop, get_drop]
    by_cases e : m = k
    · rw [e, hk]; rfl
    · rw [if_neg e, if_neg e]
  | some s => rfl
end
end Tb
end
section
/-! ### places -/
namespace Tk
open PySem L2
def top (i : Nat) : Stmt := PySem.Challenge.pw_tickbook_k01_one_alarm.main.body.getD i (.Pass ⟨0, 0, 0, 0⟩)
abbrev s_check_wheels : Stmt := top 11
abbrev s_slot_spans : Stmt := top 12
abbrev s_Wheels___init__ : Stmt := inClass (top 13) 0
abbrev s_Wheels_place : Stmt := inClass (top 13) 1
abbrev s_position : Stmt := top 15
abbrev s_Row___init__ : Stmt := inClass (top 16) 0
abbrev s_Row_put : Stmt := inClass (top 16) 1
abbrev s_Row_take_slot : Stmt := inClass (top 16) 3
abbrev s_Row_numbers_in : Stmt := inClass (top 16) 4
abbrev s_Rack___init__ : Stmt := inClass (top 17) 0
abbrev s_Rack_row_of : Stmt := inClass (top 17) 1
abbrev s_Rack_put : Stmt := inClass (top 17) 2
abbrev s_Rack_first_row : Stmt := inClass (top 17) 5
abbrev s_Rack_first_start : Stmt := inClass (top 17) 6
abbrev s_Rack_first_numbers : Stmt := inClass (top 17) 7
abbrev s_Rack_take_first : Stmt := inClass (top 17) 8
abbrev s_Book___init__ : Stmt := inClass (top 19) 0
abbrev s_Book_time : Stmt := inClass (top 19) 1
abbrev s_Book_waiting : Stmt := inClass (top 19) 2
abbrev s_Book_due : Stmt := inClass (top 19) 4
abbrev s_Book_soonest : Stmt := inClass (top 19) 8
abbrev s_check_tick : Stmt := top 20
abbrev s_check_step : Stmt := top 21
abbrev s_check_stretch : Stmt := top 22
abbrev s_start_waiting : Stmt := top 23
abbrev s_forget : Stmt := top 24
abbrev s_set_alarm : Stmt := top 25
abbrev s_ring : Stmt := top 26
abbrev s_turn_to : Stmt := top 27
abbrev s_pass_ticks : Stmt := top 28
abbrev s__law_cell : Stmt := top 30
abbrev s__law_mix : Stmt := top 31
abbrev s__law_whole : Stmt := top 32
abbrev s__law_made : Stmt := top 33
abbrev s__law_set : Stmt := top 34
abbrev s_law : Stmt := top 35
/-- the addresses -/
structure Ad where
  f_check_wheels : Addr
  fd_check_wheels : FuncData
  f_slot_spans : Addr
  fd_slot_spans : FuncData
  f_Wheels___init__ : Addr
  fd_Wheels___init__ : FuncData
  f_Wheels_place : Addr
  fd_Wheels_place : FuncData
  f_position : Addr
  fd_position : FuncData
  f_Row___init__ : Addr
  fd_Row___init__ : FuncData
  f_Row_put : Addr
  fd_Row_put : FuncData
  f_Row_take_slot : Addr
  fd_Row_take_slot : FuncData
  f_Row_numbers_in : Addr
  fd_Row_numbers_in : FuncData
  f_Rack___init__ : Addr
  fd_Rack___init__ : FuncData
  f_Rack_row_of : Addr
  fd_Rack_row_of : FuncData
  f_Rack_put : Addr
  fd_Rack_put : FuncData
  f_Rack_first_row : Addr
  fd_Rack_first_row : FuncData
  f_Rack_first_start : Addr
  fd_Rack_first_start : FuncData
  f_Rack_first_numbers : Addr
  fd_Rack_first_numbers : FuncData
  f_Rack_take_first : Addr
  fd_Rack_take_first : FuncData
  f_Book___init__ : Addr
  fd_Book___init__ : FuncData
  f_Book_time : Addr
  fd_Book_time : FuncData
  f_Book_waiting : Addr
  fd_Book_waiting : FuncData
  f_Book_due : Addr
  fd_Book_due : FuncData
  f_Book_soonest : Addr
  fd_Book_soonest : FuncData
  f_check_tick : Addr
  fd_check_tick : FuncData
  f_check_step : Addr
  fd_check_step : FuncData
  f_check_stretch : Addr
  fd_check_stretch : FuncData
  f_start_waiting : Addr
  fd_start_waiting : FuncData
  f_forget : Addr
  fd_forget : FuncData
  f_set_alarm : Addr
  fd_set_alarm : FuncData
  f_ring : Addr
  fd_ring : FuncData
  f_turn_to : Addr
  fd_turn_to : FuncData
  f_pass_ticks : Addr
  fd_pass_ticks : FuncData
  f__law_cell : Addr
  fd__law_cell : FuncData
  f__law_mix : Addr
  fd__law_mix : FuncData
  f__law_whole : Addr
  fd__law_whole : FuncData
  f__law_made : Addr
  fd__law_made : FuncData
  f__law_set : Addr
  fd__law_set : FuncData
  f_law : Addr
  fd_law : FuncData
  C_Wheels : Addr
  C_Row : Addr
  C_Rack : Addr
  C_Book : Addr
  C_TickError : Addr
  C_BadWheels : Addr
  C_Past : Addr
  C_NotThere : Addr
  t_FEWEST_SLOTS : Tok
  t_MOST_SLOTS : Tok
  t_FEWEST_LEVELS : Tok
  t_MOST_LEVELS : Tok
/-- the facts -/
structure Txt (K : PySem.W.Frag) (mg : Str → Option Value) (a : Ad) : Prop where
  c_Wheels : mg "Wheels" = some (.ref a.C_Wheels)
  cl_Wheels : Cls K a.C_Wheels
  n_Wheels_slots : NoAttr K a.C_Wheels "slots"
  n_Wheels_spans : NoAttr K a.C_Wheels "spans"
  c_Row : mg "Row" = some (.ref a.C_Row)
  cl_Row : Cls K a.C_Row
  n_Row_span : NoAttr K a.C_Row "span"
  n_Row_filled : NoAttr K a.C_Row "filled"
  n_Row_rising : NoAttr K a.C_Row "rising"
  c_Rack : mg "Rack" = some (.ref a.C_Rack)
  cl_Rack : Cls K a.C_Rack
  n_Rack_wheels : NoAttr K a.C_Rack "wheels"
  n_Rack_rows : NoAttr K a.C_Rack "rows"
  c_Book : mg "Book" = some (.ref a.C_Book)
  cl_Book : Cls K a.C_Book
  n_Book_rack : NoAttr K a.C_Book "rack"
  n_Book_now : NoAttr K a.C_Book "now"
  n_Book_next_number : NoAttr K a.C_Book "next_number"
  n_Book_names : NoAttr K a.C_Book "names"
  n_Book_steps : NoAttr K a.C_Book "steps"
  n_Book_ticks : NoAttr K a.C_Book "ticks"
  n_Book_kept_ticks : NoAttr K a.C_Book "kept_ticks"
  c_TickError : mg "TickError" = some (.ref a.C_TickError)
  x_TickError : PySem.W.excIn K a.C_TickError bmV "ValueError.__new__" = true
  ct_TickError : Ctch K a.C_TickError
  ec_TickError : ExcC K a.C_TickError
  kv_TickError : PySem.W.kitOne K (.ref a.C_TickError) (.type "ValueError") = some true
  c_BadWheels : mg "BadWheels" = some (.ref a.C_BadWheels)
  x_BadWheels : PySem.W.excIn K a.C_BadWheels bmV "ValueError.__new__" = true
  ct_BadWheels : Ctch K a.C_BadWheels
  ec_BadWheels : ExcC K a.C_BadWheels
  kv_BadWheels : PySem.W.kitOne K (.ref a.C_BadWheels) (.type "ValueError") = some true
  c_Past : mg "Past" = some (.ref a.C_Past)
  x_Past : PySem.W.excIn K a.C_Past bmV "ValueError.__new__" = true
  ct_Past : Ctch K a.C_Past
  ec_Past : ExcC K a.C_Past
  kv_Past : PySem.W.kitOne K (.ref a.C_Past) (.type "ValueError") = some true
  c_NotThere : mg "NotThere" = some (.ref a.C_NotThere)
  x_NotThere : PySem.W.excIn K a.C_NotThere bmV "ValueError.__new__" = true
  ct_NotThere : Ctch K a.C_NotThere
  ec_NotThere : ExcC K a.C_NotThere
  kv_NotThere : PySem.W.kitOne K (.ref a.C_NotThere) (.type "ValueError") = some true
  sb_TickError_TickError : PySem.W.subIn K (.ref a.C_TickError) (.ref a.C_TickError) = some true
  kt_TickError_TickError : PySem.W.kitOne K (.ref a.C_TickError) (.ref a.C_TickError) = some true
  sb_TickError_BadWheels : PySem.W.subIn K (.ref a.C_TickError) (.ref a.C_BadWheels) = some false
  kt_TickError_BadWheels : PySem.W.kitOne K (.ref a.C_TickError) (.ref a.C_BadWheels) = some false
  sb_TickError_Past : PySem.W.subIn K (.ref a.C_TickError) (.ref a.C_Past) = some false
  kt_TickError_Past : PySem.W.kitOne K (.ref a.C_TickError) (.ref a.C_Past) = some false
  sb_TickError_NotThere : PySem.W.subIn K (.ref a.C_TickError) (.ref a.C_NotThere) = some false
  kt_TickError_NotThere : PySem.W.kitOne K (.ref a.C_TickError) (.ref a.C_NotThere) = some false
  sb_BadWheels_BadWheels : PySem.W.subIn K (.ref a.C_BadWheels) (.ref a.C_BadWheels) = some true
  kt_BadWheels_BadWheels : PySem.W.kitOne K (.ref a.C_BadWheels) (.ref a.C_BadWheels) = some true
  sb_BadWheels_TickError : PySem.W.subIn K (.ref a.C_BadWheels) (.ref a.C_TickError) = some true
  kt_BadWheels_TickError : PySem.W.kitOne K (.ref a.C_BadWheels) (.ref a.C_TickError) = some true
  sb_BadWheels_Past : PySem.W.subIn K (.ref a.C_BadWheels) (.ref a.C_Past) = some false
  kt_BadWheels_Past : PySem.W.kitOne K (.ref a.C_BadWheels) (.ref a.C_Past) = some false
  sb_BadWheels_NotThere : PySem.W.subIn K (.ref a.C_BadWheels) (.ref a.C_NotThere) = some false
  kt_BadWheels_NotThere : PySem.W.kitOne K (.ref a.C_BadWheels) (.ref a.C_NotThere) = some false
  sb_Past_Past : PySem.W.subIn K (.ref a.C_Past) (.ref a.C_Past) = some true
  kt_Past_Past : PySem.W.kitOne K (.ref a.C_Past) (.ref a.C_Past) = some true
  sb_Past_TickError : PySem.W.subIn K (.ref a.C_Past) (.ref a.C_TickError) = some true
  kt_Past_TickError : PySem.W.kitOne K (.ref a.C_Past) (.ref a.C_TickError) = some true
  sb_Past_BadWheels : PySem.W.subIn K (.ref a.C_Past) (.ref a.C_BadWheels) = some false
  kt_Past_BadWheels : PySem.W.kitOne K (.ref a.C_Past) (.ref a.C_BadWheels) = some false
  sb_Past_NotThere : PySem.W.subIn K (.ref a.C_Past) (.ref a.C_NotThere) = some false
  kt_Past_NotThere : PySem.W.kitOne K (.ref a.C_Past) (.ref a.C_NotThere) = some false
  sb_NotThere_NotThere : PySem.W.subIn K (.ref a.C_NotThere) (.ref a.C_NotThere) = some true
  kt_NotThere_NotThere : PySem.W.kitOne K (.ref a.C_NotThere) (.ref a.C_NotThere) = some true
  sb_NotThere_TickError : PySem.W.subIn K (.ref a.C_NotThere) (.ref a.C_TickError) = some true
  kt_NotThere_TickError : PySem.W.kitOne K (.ref a.C_NotThere) (.ref a.C_TickError) = some true
  sb_NotThere_BadWheels : PySem.W.subIn K (.ref a.C_NotThere) (.ref a.C_BadWheels) = some false
  kt_NotThere_BadWheels : PySem.W.kitOne K (.ref a.C_NotThere) (.ref a.C_BadWheels) = some false
  sb_NotThere_Past : PySem.W.subIn K (.ref a.C_NotThere) (.ref a.C_Past) = some false
  kt_NotThere_Past : PySem.W.kitOne K (.ref a.C_NotThere) (.ref a.C_Past) = some false
  f_check_wheels : mg "check_wheels" = some (.ref a.f_check_wheels)
  F_check_wheels : Fun K "check_wheels" "check_wheels" s_check_wheels a.f_check_wheels a.fd_check_wheels
  kp_check_wheels : PySem.W.keepIn K (.ref a.f_check_wheels) = true
  B_check_wheels : Binds K a.fd_check_wheels ["slots", "levels"] []
  f_slot_spans : mg "slot_spans" = some (.ref a.f_slot_spans)
  F_slot_spans : Fun K "slot_spans" "slot_spans" s_slot_spans a.f_slot_spans a.fd_slot_spans
  kp_slot_spans : PySem.W.keepIn K (.ref a.f_slot_spans) = true
  B_slot_spans : Binds K a.fd_slot_spans ["slots", "levels"] []
  F_Wheels___init__ : Fun K "__init__" "Wheels.__init__" s_Wheels___init__ a.f_Wheels___init__ a.fd_Wheels___init__
  kp_Wheels___init__ : PySem.W.keepIn K (.ref a.f_Wheels___init__) = true
  B_Wheels___init__ : Binds K a.fd_Wheels___init__ ["self", "slots", "levels"] []
  m_Wheels___init__ : Meth K a.C_Wheels "__init__" a.f_Wheels___init__
  M_Wheels : Mk K a.C_Wheels a.f_Wheels___init__
  F_Wheels_place : Fun K "place" "Wheels.place" s_Wheels_place a.f_Wheels_place a.fd_Wheels_place
  kp_Wheels_place : PySem.W.keepIn K (.ref a.f_Wheels_place) = true
  B_Wheels_place : Binds K a.fd_Wheels_place ["self", "now", "due"] []
  m_Wheels_place : Meth K a.C_Wheels "place" a.f_Wheels_place
  f_position : mg "position" = some (.ref a.f_position)
  F_position : Fun K "position" "position" s_position a.f_position a.fd_position
  kp_position : PySem.W.keepIn K (.ref a.f_position) = true
  B_position : Binds K a.fd_position ["rising", "value"] []
  F_Row___init__ : Fun K "__init__" "Row.__init__" s_Row___init__ a.f_Row___init__ a.fd_Row___init__
  kp_Row___init__ : PySem.W.keepIn K (.ref a.f_Row___init__) = true
  B_Row___init__ : Binds K a.fd_Row___init__ ["self", "span"] []
  m_Row___init__ : Meth K a.C_Row "__init__" a.f_Row___init__
  M_Row : Mk K a.C_Row a.f_Row___init__
  F_Row_put : Fun K "put" "Row.put" s_Row_put a.f_Row_put a.fd_Row_put
  kp_Row_put : PySem.W.keepIn K (.ref a.f_Row_put) = true
  B_Row_put : Binds K a.fd_Row_put ["self", "number", "tick"] []
  m_Row_put : Meth K a.C_Row "put" a.f_Row_put
  F_Row_take_slot : Fun K "take_slot" "Row.take_slot" s_Row_take_slot a.f_Row_take_slot a.fd_Row_take_slot
  kp_Row_take_slot : PySem.W.keepIn K (.ref a.f_Row_take_slot) = true
  B_Row_take_slot : Binds K a.fd_Row_take_slot ["self", "slot"] []
  m_Row_take_slot : Meth K a.C_Row "take_slot" a.f_Row_take_slot
  F_Row_numbers_in : Fun K "numbers_in" "Row.numbers_in" s_Row_numbers_in a.f_Row_numbers_in a.fd_Row_numbers_in
  kp_Row_numbers_in : PySem.W.keepIn K (.ref a.f_Row_numbers_in) = true
  B_Row_numbers_in : Binds K a.fd_Row_numbers_in ["self", "slot"] []
  m_Row_numbers_in : Meth K a.C_Row "numbers_in" a.f_Row_numbers_in
  F_Rack___init__ : Fun K "__init__" "Rack.__init__" s_Rack___init__ a.f_Rack___init__ a.fd_Rack___init__
  kp_Rack___init__ : PySem.W.keepIn K (.ref a.f_Rack___init__) = true
  B_Rack___init__ : Binds K a.fd_Rack___init__ ["self", "slots", "levels"] []
  m_Rack___init__ : Meth K a.C_Rack "__init__" a.f_Rack___init__
  M_Rack : Mk K a.C_Rack a.f_Rack___init__
  F_Rack_row_of : Fun K "row_of" "Rack.row_of" s_Rack_row_of a.f_Rack_row_of a.fd_Rack_row_of
  kp_Rack_row_of : PySem.W.keepIn K (.ref a.f_Rack_row_of) = true
  B_Rack_row_of : Binds K a.fd_Rack_row_of ["self", "now", "tick"] []
  m_Rack_row_of : Meth K a.C_Rack "row_of" a.f_Rack_row_of
  F_Rack_put : Fun K "put" "Rack.put" s_Rack_put a.f_Rack_put a.fd_Rack_put
  kp_Rack_put : PySem.W.keepIn K (.ref a.f_Rack_put) = true
  B_Rack_put : Binds K a.fd_Rack_put ["self", "now", "number", "tick"] []
  m_Rack_put : Meth K a.C_Rack "put" a.f_Rack_put
  F_Rack_first_row : Fun K "first_row" "Rack.first_row" s_Rack_first_row a.f_Rack_first_row a.fd_Rack_first_row
  kp_Rack_first_row : PySem.W.keepIn K (.ref a.f_Rack_first_row) = true
  B_Rack_first_row : Binds K a.fd_Rack_first_row ["self"] []
  m_Rack_first_row : Meth K a.C_Rack "first_row" a.f_Rack_first_row
  F_Rack_first_start : Fun K "first_start" "Rack.first_start" s_Rack_first_start a.f_Rack_first_start a.fd_Rack_first_start
  kp_Rack_first_start : PySem.W.keepIn K (.ref a.f_Rack_first_start) = true
  B_Rack_first_start : Binds K a.fd_Rack_first_start ["self"] []
  m_Rack_first_start : Meth K a.C_Rack "first_start" a.f_Rack_first_start
  F_Rack_first_numbers : Fun K "first_numbers" "Rack.first_numbers" s_Rack_first_numbers a.f_Rack_first_numbers a.fd_Rack_first_numbers
  kp_Rack_first_numbers : PySem.W.keepIn K (.ref a.f_Rack_first_numbers) = true
  B_Rack_first_numbers : Binds K a.fd_Rack_first_numbers ["self"] []
  m_Rack_first_numbers : Meth K a.C_Rack "first_numbers" a.f_Rack_first_numbers
  F_Rack_take_first : Fun K "take_first" "Rack.take_first" s_Rack_take_first a.f_Rack_take_first a.fd_Rack_take_first
  kp_Rack_take_first : PySem.W.keepIn K (.ref a.f_Rack_take_first) = true
  B_Rack_take_first : Binds K a.fd_Rack_take_first ["self"] []
  m_Rack_take_first : Meth K a.C_Rack "take_first" a.f_Rack_take_first
  F_Book___init__ : Fun K "__init__" "Book.__init__" s_Book___init__ a.f_Book___init__ a.fd_Book___init__
  kp_Book___init__ : PySem.W.keepIn K (.ref a.f_Book___init__) = true
  B_Book___init__ : Binds K a.fd_Book___init__ ["self", "slots", "levels"] []
  m_Book___init__ : Meth K a.C_Book "__init__" a.f_Book___init__
  M_Book : Mk K a.C_Book a.f_Book___init__
  F_Book_time : Fun K "time" "Book.time" s_Book_time a.f_Book_time a.fd_Book_time
  kp_Book_time : PySem.W.keepIn K (.ref a.f_Book_time) = true
  B_Book_time : Binds K a.fd_Book_time ["self"] []
  m_Book_time : Meth K a.C_Book "time" a.f_Book_time
  F_Book_waiting : Fun K "waiting" "Book.waiting" s_Book_waiting a.f_Book_waiting a.fd_Book_waiting
  kp_Book_waiting : PySem.W.keepIn K (.ref a.f_Book_waiting) = true
  B_Book_waiting : Binds K a.fd_Book_waiting ["self"] []
  m_Book_waiting : Meth K a.C_Book "waiting" a.f_Book_waiting
  F_Book_due : Fun K "due" "Book.due" s_Book_due a.f_Book_due a.fd_Book_due
  kp_Book_due : PySem.W.keepIn K (.ref a.f_Book_due) = true
  B_Book_due : Binds K a.fd_Book_due ["self", "number"] []
  m_Book_due : Meth K a.C_Book "due" a.f_Book_due
  F_Book_soonest : Fun K "soonest" "Book.soonest" s_Book_soonest a.f_Book_soonest a.fd_Book_soonest
  kp_Book_soonest : PySem.W.keepIn K (.ref a.f_Book_soonest) = true
  B_Book_soonest : Binds K a.fd_Book_soonest ["self"] []
  m_Book_soonest : Meth K a.C_Book "soonest" a.f_Book_soonest
  f_check_tick : mg "check_tick" = some (.ref a.f_check_tick)
  F_check_tick : Fun K "check_tick" "check_tick" s_check_tick a.f_check_tick a.fd_check_tick
  kp_check_tick : PySem.W.keepIn K (.ref a.f_check_tick) = true
  B_check_tick : Binds K a.fd_check_tick ["book", "due"] []
  f_check_step : mg "check_step" = some (.ref a.f_check_step)
  F_check_step : Fun K "check_step" "check_step" s_check_step a.f_check_step a.fd_check_step
  kp_check_step : PySem.W.keepIn K (.ref a.f_check_step) = true
  B_check_step : Binds K a.fd_check_step ["step"] []
  f_check_stretch : mg "check_stretch" = some (.ref a.f_check_stretch)
  F_check_stretch : Fun K "check_stretch" "check_stretch" s_check_stretch a.f_check_stretch a.fd_check_stretch
  kp_check_stretch : PySem.W.keepIn K (.ref a.f_check_stretch) = true
  B_check_stretch : Binds K a.fd_check_stretch ["ticks"] []
  f_start_waiting : mg "start_waiting" = some (.ref a.f_start_waiting)
  F_start_waiting : Fun K "start_waiting" "start_waiting" s_start_waiting a.f_start_waiting a.fd_start_waiting
  kp_start_waiting : PySem.W.keepIn K (.ref a.f_start_waiting) = true
  B_start_waiting : Binds K a.fd_start_waiting ["book", "number", "tick"] []
  f_forget : mg "forget" = some (.ref a.f_forget)
  F_forget : Fun K "forget" "forget" s_forget a.f_forget a.fd_forget
  kp_forget : PySem.W.keepIn K (.ref a.f_forget) = true
  B_forget : Binds K a.fd_forget ["book", "number"] []
  f_set_alarm : mg "set_alarm" = some (.ref a.f_set_alarm)
  F_set_alarm : Fun K "set_alarm" "set_alarm" s_set_alarm a.f_set_alarm a.fd_set_alarm
  kp_set_alarm : PySem.W.keepIn K (.ref a.f_set_alarm) = true
  B_set_alarm : Binds K a.fd_set_alarm ["book", "name", "due", "step"] []
  f_ring : mg "ring" = some (.ref a.f_ring)
  F_ring : Fun K "ring" "ring" s_ring a.f_ring a.fd_ring
  kp_ring : PySem.W.keepIn K (.ref a.f_ring) = true
  B_ring : Binds K a.fd_ring ["book", "number"] []
  f_turn_to : mg "turn_to" = some (.ref a.f_turn_to)
  F_turn_to : Fun K "turn_to" "turn_to" s_turn_to a.f_turn_to a.fd_turn_to
  kp_turn_to : PySem.W.keepIn K (.ref a.f_turn_to) = true
  B_turn_to : Binds K a.fd_turn_to ["book", "start"] []
  f_pass_ticks : mg "pass_ticks" = some (.ref a.f_pass_ticks)
  F_pass_ticks : Fun K "pass_ticks" "pass_ticks" s_pass_ticks a.f_pass_ticks a.fd_pass_ticks
  kp_pass_ticks : PySem.W.keepIn K (.ref a.f_pass_ticks) = true
  B_pass_ticks : Binds K a.fd_pass_ticks ["book", "ticks"] []
  f__law_cell : mg "_law_cell" = some (.ref a.f__law_cell)
  F__law_cell : Fun K "_law_cell" "_law_cell" s__law_cell a.f__law_cell a.fd__law_cell
  kp__law_cell : PySem.W.keepIn K (.ref a.f__law_cell) = true
  B__law_cell : Binds K a.fd__law_cell ["_law_script", "_law_k"] []
  f__law_mix : mg "_law_mix" = some (.ref a.f__law_mix)
  F__law_mix : Fun K "_law_mix" "_law_mix" s__law_mix a.f__law_mix a.fd__law_mix
  kp__law_mix : PySem.W.keepIn K (.ref a.f__law_mix) = true
  B__law_mix : Binds K a.fd__law_mix ["_law_script", "_law_k"] []
  f__law_whole : mg "_law_whole" = some (.ref a.f__law_whole)
  F__law_whole : Fun K "_law_whole" "_law_whole" s__law_whole a.f__law_whole a.fd__law_whole
  kp__law_whole : PySem.W.keepIn K (.ref a.f__law_whole) = true
  B__law_whole : Binds K a.fd__law_whole ["_law_found"] []
  f__law_made : mg "_law_made" = some (.ref a.f__law_made)
  F__law_made : Fun K "_law_made" "_law_made" s__law_made a.f__law_made a.fd__law_made
  kp__law_made : PySem.W.keepIn K (.ref a.f__law_made) = true
  B__law_made : Binds K a.fd__law_made ["_law_slots", "_law_levels"] []
  f__law_set : mg "_law_set" = some (.ref a.f__law_set)
  F__law_set : Fun K "_law_set" "_law_set" s__law_set a.f__law_set a.fd__law_set
  kp__law_set : PySem.W.keepIn K (.ref a.f__law_set) = true
  B__law_set : Binds K a.fd__law_set ["_law_book", "_law_due"] []
  f_law : mg "law" = some (.ref a.f_law)
  F_law : Fun K "law" "law" s_law a.f_law a.fd_law
  kp_law : PySem.W.keepIn K (.ref a.f_law) = true
  B_law : Binds K a.fd_law ["_law_script"] []
  ti_Book : TyIns K a.C_Book
  ty_C_Book_str : PySem.W.kitOne K (.ref a.C_Book) (.type "str") = some false
  ty_int_bool : PySem.W.kitOne K (.type "int") (.type "bool") = some false
  ty_int_str : PySem.W.kitOne K (.type "int") (.type "str") = some false
  ty_str_int : PySem.W.kitOne K (.type "str") (.type "int") = some false
  ty_str_bool : PySem.W.kitOne K (.type "str") (.type "bool") = some false
  b_len : mg "len" = none
  b_range : mg "range" = none
  b_sorted : mg "sorted" = none
  b_min : mg "min" = none
  b_isinstance : mg "isinstance" = none
  b_int : mg "int" = none
  b_bool : mg "bool" = none
  b_str : mg "str" = none
  b_tuple : mg "tuple" = none
  b_list : mg "list" = none
  b_ValueError : mg "ValueError" = none
  b_enumerate : mg "enumerate" = none
  k_FEWEST_SLOTS : mg "FEWEST_SLOTS" = some (.int (2) a.t_FEWEST_SLOTS)
  k_MOST_SLOTS : mg "MOST_SLOTS" = some (.int (64) a.t_MOST_SLOTS)
  k_FEWEST_LEVELS : mg "FEWEST_LEVELS" = some (.int (1) a.t_FEWEST_LEVELS)
  k_MOST_LEVELS : mg "MOST_LEVELS" = some (.int (6) a.t_MOST_LEVELS)
set_option maxHeartbeats 0 in
theorem txt_mk {K : PySem.W.Frag} {h : Heap} {mg : Str → Option Value} (X : K.In h) (G : h.Ns mainGlobals mg)
    {C_Wheels : Addr}
    {C_Row : Addr}
    {C_Rack : Addr}
    {C_Book : Addr}
    {C_TickError : Addr}
    {C_BadWheels : Addr}
    {C_Past : Addr}
    {C_NotThere : Addr}
    {f_check_wheels : Addr} {oc_check_wheels kV_check_wheels dc_check_wheels pm_check_wheels cd_check_wheels ct_check_wheels : Value} {od_check_wheels an_check_wheels : Option Addr} {sl_check_wheels : Array (Option Value)}
    {f_slot_spans : Addr} {oc_slot_spans kV_slot_spans dc_slot_spans pm_slot_spans cd_slot_spans ct_slot_spans : Value} {od_slot_spans an_slot_spans : Option Addr} {sl_slot_spans : Array (Option Value)}
    {f_Wheels___init__ : Addr} {oc_Wheels___init__ kV_Wheels___init__ dc_Wheels___init__ pm_Wheels___init__ cd_Wheels___init__ ct_Wheels___init__ : Value} {od_Wheels___init__ an_Wheels___init__ : Option Addr} {sl_Wheels___init__ : Array (Option Value)}
    {f_Wheels_place : Addr} {oc_Wheels_place kV_Wheels_place dc_Wheels_place pm_Wheels_place cd_Wheels_place ct_Wheels_place : Value} {od_Wheels_place an_Wheels_place : Option Addr} {sl_Wheels_place : Array (Option Value)}
    {f_position : Addr} {oc_position kV_position dc_position pm_position cd_position ct_position : Value} {od_position an_position : Option Addr} {sl_position : Array (Option Value)}
    {f_Row___init__ : Addr} {oc_Row___init__ kV_Row___init__ dc_Row___init__ pm_Row___init__ cd_Row___init__ ct_Row___init__ : Value} {od_Row___init__ an_Row___init__ : Option Addr} {sl_Row___init__ : Array (Option Value)}
    {f_Row_put : Addr} {oc_Row_put kV_Row_put dc_Row_put pm_Row_put cd_Row_put ct_Row_put : Value} {od_Row_put an_Row_put : Option Addr} {sl_Row_put : Array (Option Value)}
    {f_Row_take_slot : Addr} {oc_Row_take_slot kV_Row_take_slot dc_Row_take_slot pm_Row_take_slot cd_Row_take_slot ct_Row_take_slot : Value} {od_Row_take_slot an_Row_take_slot : Option Addr} {sl_Row_take_slot : Array (Option Value)}
    {f_Row_numbers_in : Addr} {oc_Row_numbers_in kV_Row_numbers_in dc_Row_numbers_in pm_Row_numbers_in cd_Row_numbers_in ct_Row_numbers_in : Value} {od_Row_numbers_in an_Row_numbers_in : Option Addr} {sl_Row_numbers_in : Array (Option Value)}
    {f_Rack___init__ : Addr} {oc_Rack___init__ kV_Rack___init__ dc_Rack___init__ pm_Rack___init__ cd_Rack___init__ ct_Rack___init__ : Value} {od_Rack___init__ an_Rack___init__ : Option Addr} {sl_Rack___init__ : Array (Option Value)}
    {f_Rack_row_of : Addr} {oc_Rack_row_of kV_Rack_row_of dc_Rack_row_of pm_Rack_row_of cd_Rack_row_of ct_Rack_row_of : Value} {od_Rack_row_of an_Rack_row_of : Option Addr} {sl_Rack_row_of : Array (Option Value)}
    {f_Rack_put : Addr} {oc_Rack_put kV_Rack_put dc_Rack_put pm_Rack_put cd_Rack_put ct_Rack_put : Value} {od_Rack_put an_Rack_put : Option Addr} {sl_Rack_put : Array (Option Value)}
    {f_Rack_first_row : Addr} {oc_Rack_first_row kV_Rack_first_row dc_Rack_first_row pm_Rack_first_row cd_Rack_first_row ct_Rack_first_row : Value} {od_Rack_first_row an_Rack_first_row : Option Addr} {sl_Rack_first_row : Array (Option Value)}
    {f_Rack_first_start : Addr} {oc_Rack_first_start kV_Rack_first_start dc_Rack_first_start pm_Rack_first_start cd_Rack_first_start ct_Rack_first_start : Value} {od_Rack_first_start an_Rack_first_start : Option Addr} {sl_Rack_first_start : Array (Option Value)}
    {f_Rack_first_numbers : Addr} {oc_Rack_first_numbers kV_Rack_first_numbers dc_Rack_first_numbers pm_Rack_first_numbers cd_Rack_first_numbers ct_Rack_first_numbers : Value} {od_Rack_first_numbers an_Rack_first_numbers : Option Addr} {sl_Rack_first_numbers : Array (Option Value)}
    {f_Rack_take_first : Addr} {oc_Rack_take_first kV_Rack_take_first dc_Rack_take_first pm_Rack_take_first cd_Rack_take_first ct_Rack_take_first : Value} {od_Rack_take_first an_Rack_take_first : Option Addr} {sl_Rack_take_first : Array (Option Value)}
    {f_Book___init__ : Addr} {oc_Book___init__ kV_Book___init__ dc_Book___init__ pm_Book___init__ cd_Book___init__ ct_Book___init__ : Value} {od_Book___init__ an_Book___init__ : Option Addr} {sl_Book___init__ : Array (Option Value)}
    {f_Book_time : Addr} {oc_Book_time kV_Book_time dc_Book_time pm_Book_time cd_Book_time ct_Book_time : Value} {od_Book_time an_Book_time : Option Addr} {sl_Book_time : Array (Option Value)}
    {f_Book_waiting : Addr} {oc_Book_waiting kV_Book_waiting dc_Book_waiting pm_Book_waiting cd_Book_waiting ct_Book_waiting : Value} {od_Book_waiting an_Book_waiting : Option Addr} {sl_Book_waiting : Array (Option Value)}
    {f_Book_due : Addr} {oc_Book_due kV_Book_due dc_Book_due pm_Book_due cd_Book_due ct_Book_due : Value} {od_Book_due an_Book_due : Option Addr} {sl_Book_due : Array (Option Value)}
    {f_Book_soonest : Addr} {oc_Book_soonest kV_Book_soonest dc_Book_soonest pm_Book_soonest cd_Book_soonest ct_Book_soonest : Value} {od_Book_soonest an_Book_soonest : Option Addr} {sl_Book_soonest : Array (Option Value)}
    {f_check_tick : Addr} {oc_check_tick kV_check_tick dc_check_tick pm_check_tick cd_check_tick ct_check_tick : Value} {od_check_tick an_check_tick : Option Addr} {sl_check_tick : Array (Option Value)}
    {f_check_step : Addr} {oc_check_step kV_check_step dc_check_step pm_check_step cd_check_step ct_check_step : Value} {od_check_step an_check_step : Option Addr} {sl_check_step : Array (Option Value)}
    {f_check_stretch : Addr} {oc_check_stretch kV_check_stretch dc_check_stretch pm_check_stretch cd_check_stretch ct_check_stretch : Value} {od_check_stretch an_check_stretch : Option Addr} {sl_check_stretch : Array (Option Value)}
    {f_start_waiting : Addr} {oc_start_waiting kV_start_waiting dc_start_waiting pm_start_waiting cd_start_waiting ct_start_waiting : Value} {od_start_waiting an_start_waiting : Option Addr} {sl_start_waiting : Array (Option Value)}
    {f_forget : Addr} {oc_forget kV_forget dc_forget pm_forget cd_forget ct_forget : Value} {od_forget an_forget : Option Addr} {sl_forget : Array (Option Value)}
    {f_set_alarm : Addr} {oc_set_alarm kV_set_alarm dc_set_alarm pm_set_alarm cd_set_alarm ct_set_alarm : Value} {od_set_alarm an_set_alarm : Option Addr} {sl_set_alarm : Array (Option Value)}
    {f_ring : Addr} {oc_ring kV_ring dc_ring pm_ring cd_ring ct_ring : Value} {od_ring an_ring : Option Addr} {sl_ring : Array (Option Value)}
    {f_turn_to : Addr} {oc_turn_to kV_turn_to dc_turn_to pm_turn_to cd_turn_to ct_turn_to : Value} {od_turn_to an_turn_to : Option Addr} {sl_turn_to : Array (Option Value)}
    {f_pass_ticks : Addr} {oc_pass_ticks kV_pass_ticks dc_pass_ticks pm_pass_ticks cd_pass_ticks ct_pass_ticks : Value} {od_pass_ticks an_pass_ticks : Option Addr} {sl_pass_ticks : Array (Option Value)}
    {f__law_cell : Addr} {oc__law_cell kV__law_cell dc__law_cell pm__law_cell cd__law_cell ct__law_cell : Value} {od__law_cell an__law_cell : Option Addr} {sl__law_cell : Array (Option Value)}
    {f__law_mix : Addr} {oc__law_mix kV__law_mix dc__law_mix pm__law_mix cd__law_mix ct__law_mix : Value} {od__law_mix an__law_mix : Option Addr} {sl__law_mix : Array (Option Value)}
    {f__law_whole : Addr} {oc__law_whole kV__law_whole dc__law_whole pm__law_whole cd__law_whole ct__law_whole : Value} {od__law_whole an__law_whole : Option Addr} {sl__law_whole : Array (Option Value)}
    {f__law_made : Addr} {oc__law_made kV__law_made dc__law_made pm__law_made cd__law_made ct__law_made : Value} {od__law_made an__law_made : Option Addr} {sl__law_made : Array (Option Value)}
    {f__law_set : Addr} {oc__law_set kV__law_set dc__law_set pm__law_set cd__law_set ct__law_set : Value} {od__law_set an__law_set : Option Addr} {sl__law_set : Array (Option Value)}
    {f_law : Addr} {oc_law kV_law dc_law pm_law cd_law ct_law : Value} {od_law an_law : Option Addr} {sl_law : Array (Option Value)}
    {t_FEWEST_SLOTS : Tok}
    {t_MOST_SLOTS : Tok}
    {t_FEWEST_LEVELS : Tok}
    {t_MOST_LEVELS : Tok}
    (e1 : PySem.W.nsIn K mainGlobals "Wheels" = some (some (.ref C_Wheels)))
    (e2 : PySem.W.plainGet K C_Wheels Str.empty = true)
    (e3 : PySem.W.hasDictIn K C_Wheels = true)
    (e4 : PySem.W.plainOver K C_Wheels = true)
    (e5 : PySem.W.findIn K (.ref C_Wheels) "__setattr__" = some (some (.builtin "object.__setattr__")))
    (e6 : PySem.W.findIn K (.ref C_Wheels) "slots" = some none)
    (e7 : PySem.W.findIn K (.ref C_Wheels) "spans" = some none)
    (e8 : PySem.W.nsIn K mainGlobals "Row" = some (some (.ref C_Row)))
    (e9 : PySem.W.plainGet K C_Row Str.empty = true)
    (e10 : PySem.W.hasDictIn K C_Row = true)
    (e11 : PySem.W.plainOver K C_Row = true)
    (e12 : PySem.W.findIn K (.ref C_Row) "__setattr__" = some (some (.builtin "object.__setattr__")))
    (e13 : PySem.W.findIn K (.ref C_Row) "span" = some none)
    (e14 : PySem.W.findIn K (.ref C_Row) "filled" = some none)
    (e15 : PySem.W.findIn K (.ref C_Row) "rising" = some none)
    (e16 : PySem.W.nsIn K mainGlobals "Rack" = some (some (.ref C_Rack)))
    (e17 : PySem.W.plainGet K C_Rack Str.empty = true)
    (e18 : PySem.W.hasDictIn K C_Rack = true)
    (e19 : PySem.W.plainOver K C_Rack = true)
    (e20 : PySem.W.findIn K (.ref C_Rack) "__setattr__" = some (some (.builtin "object.__setattr__")))
    (e21 : PySem.W.findIn K (.ref C_Rack) "wheels" = some none)
    (e22 : PySem.W.findIn K (.ref C_Rack) "rows" = some none)
    (e23 : PySem.W.nsIn K mainGlobals "Book" = some (some (.ref C_Book)))
    (e24 : PySem.W.plainGet K C_Book Str.empty = true)
    (e25 : PySem.W.hasDictIn K C_Book = true)
    (e26 : PySem.W.plainOver K C_Book = true)
    (e27 : PySem.W.findIn K (.ref C_Book) "__setattr__" = some (some (.builtin "object.__setattr__")))
    (e28 : PySem.W.findIn K (.ref C_Book) "rack" = some none)
    (e29 : PySem.W.findIn K (.ref C_Book) "now" = some none)
    (e30 : PySem.W.findIn K (.ref C_Book) "next_number" = some none)
    (e31 : PySem.W.findIn K (.ref C_Book) "names" = some none)
    (e32 : PySem.W.findIn K (.ref C_Book) "steps" = some none)
    (e33 : PySem.W.findIn K (.ref C_Book) "ticks" = some none)
    (e34 : PySem.W.findIn K (.ref C_Book) "kept_ticks" = some none)
    (e35 : PySem.W.nsIn K mainGlobals "TickError" = some (some (.ref C_TickError)))
    (e36 : PySem.W.excIn K C_TickError [.type "ValueError", .type "Exception", .type "BaseException", .type "object"] "ValueError.__new__" = true)
    (e37 : PySem.W.mroIn K C_TickError (.type "object") = some true)
    (e38 : PySem.W.mroIn K C_TickError (.type "BaseException") = some true)
    (e39 : PySem.W.instIn K (.ref C_TickError) (.type "tuple") = some false)
    (e40 : PySem.W.subIn K (.ref C_TickError) (.type "BaseException") = some true)
    (e41 : PySem.W.findIn K (.ref C_TickError) "__getattribute__" = some (some (.builtin "BaseException.__getattribute__")))
    (e42 : PySem.W.findIn K (.ref C_TickError) "__getattr__" = some none)
    (e43 : PySem.W.findIn K (.ref C_TickError) "__class__" = some (some (.builtin "object.__class__")))
    (e44 : PySem.W.typeIn K (.ref C_TickError) = some (.type "type"))
    (e45 : PySem.W.subIn K (.ref C_TickError) (.type "ValueError") = some true)
    (e46 : PySem.W.nsIn K mainGlobals "BadWheels" = some (some (.ref C_BadWheels)))
    (e47 : PySem.W.excIn K C_BadWheels [.type "ValueError", .type "Exception", .type "BaseException", .type "object"] "ValueError.__new__" = true)
    (e48 : PySem.W.mroIn K C_BadWheels (.type "object") = some true)
    (e49 : PySem.W.mroIn K C_BadWheels (.type "BaseException") = some true)
    (e50 : PySem.W.instIn K (.ref C_BadWheels) (.type "tuple") = some false)
    (e51 : PySem.W.subIn K (.ref C_BadWheels) (.type "BaseException") = some true)
    (e52 : PySem.W.findIn K (.ref C_BadWheels) "__getattribute__" = some (some (.builtin "BaseException.__getattribute__")))
    (e53 : PySem.W.findIn K (.ref C_BadWheels) "__getattr__" = some none)
    (e54 : PySem.W.findIn K (.ref C_BadWheels) "__class__" = some (some (.builtin "object.__class__")))
    (e55 : PySem.W.typeIn K (.ref C_BadWheels) = some (.type "type"))
    (e56 : PySem.W.subIn K (.ref C_BadWheels) (.type "ValueError") = some true)
    (e57 : PySem.W.nsIn K mainGlobals "Past" = some (some (.ref C_Past)))
    (e58 : PySem.W.excIn K C_Past [.type "ValueError", .type "Exception", .type "BaseException", .type "object"] "ValueError.__new__" = true)
    (e59 : PySem.W.mroIn K C_Past (.type "object") = some true)
    (e60 : PySem.W.mroIn K C_Past (.type "BaseException") = some true)
    (e61 : PySem.W.instIn K (.ref C_Past) (.type "tuple") = some false)
    (e62 : PySem.W.subIn K (.ref C_Past) (.type "BaseException") = some true)
    (e63 : PySem.W.findIn K (.ref C_Past) "__getattribute__" = some (some (.builtin "BaseException.__getattribute__")))
    (e64 : PySem.W.findIn K (.ref C_Past) "__getattr__" = some none)
    (e65 : PySem.W.findIn K (.ref C_Past) "__class__" = some (some (.builtin "object.__class__")))
    (e66 : PySem.W.typeIn K (.ref C_Past) = some (.type "type"))
    (e67 : PySem.W.subIn K (.ref C_Past) (.type "ValueError") = some true)
    (e68 : PySem.W.nsIn K mainGlobals "NotThere" = some (some (.ref C_NotThere)))
    (e69 : PySem.W.excIn K C_NotThere [.type "ValueError", .type "Exception", .type "BaseException", .type "object"] "ValueError.__new__" = true)
    (e70 : PySem.W.mroIn K C_NotThere (.type "object") = some true)
    (e71 : PySem.W.mroIn K C_NotThere (.type "BaseException") = some true)
    (e72 : PySem.W.instIn K (.ref C_NotThere) (.type "tuple") = some false)
    (e73 : PySem.W.subIn K (.ref C_NotThere) (.type "BaseException") = some true)
    (e74 : PySem.W.findIn K (.ref C_NotThere) "__getattribute__" = some (some (.builtin "BaseException.__getattribute__")))
    (e75 : PySem.W.findIn K (.ref C_NotThere) "__getattr__" = some none)
    (e76 : PySem.W.findIn K (.ref C_NotThere) "__class__" = some (some (.builtin "object.__class__")))
    (e77 : PySem.W.typeIn K (.ref C_NotThere) = some (.type "type"))
    (e78 : PySem.W.subIn K (.ref C_NotThere) (.type "ValueError") = some true)
    (e79 : PySem.W.subIn K (.ref C_TickError) (.ref C_TickError) = some true)
    (e80 : PySem.W.subIn K (.ref C_TickError) (.ref C_BadWheels) = some false)
    (e81 : PySem.W.subIn K (.ref C_TickError) (.ref C_Past) = some false)
    (e82 : PySem.W.subIn K (.ref C_TickError) (.ref C_NotThere) = some false)
    (e83 : PySem.W.subIn K (.ref C_BadWheels) (.ref C_BadWheels) = some true)
    (e84 : PySem.W.subIn K (.ref C_BadWheels) (.ref C_TickError) = some true)
    (e85 : PySem.W.subIn K (.ref C_BadWheels) (.ref C_Past) = some false)
    (e86 : PySem.W.subIn K (.ref C_BadWheels) (.ref C_NotThere) = some false)
    (e87 : PySem.W.subIn K (.ref C_Past) (.ref C_Past) = some true)
    (e88 : PySem.W.subIn K (.ref C_Past) (.ref C_TickError) = some true)
    (e89 : PySem.W.subIn K (.ref C_Past) (.ref C_BadWheels) = some false)
    (e90 : PySem.W.subIn K (.ref C_Past) (.ref C_NotThere) = some false)
    (e91 : PySem.W.subIn K (.ref C_NotThere) (.ref C_NotThere) = some true)
    (e92 : PySem.W.subIn K (.ref C_NotThere) (.ref C_TickError) = some true)
    (e93 : PySem.W.subIn K (.ref C_NotThere) (.ref C_BadWheels) = some false)
    (e94 : PySem.W.subIn K (.ref C_NotThere) (.ref C_Past) = some false)
    (e95 : PySem.W.nsIn K mainGlobals "check_wheels" = some (some (.ref f_check_wheels)))
    (e96 : K.lookup f_check_wheels = some ⟨oc_check_wheels, od_check_wheels, .func (PySem.W.fnOf "check_wheels" "check_wheels" (defArgs s_check_wheels) (defBody s_check_wheels) (defScope s_check_wheels) .none kV_check_wheels dc_check_wheels pm_check_wheels an_check_wheels cd_check_wheels ct_check_wheels), sl_check_wheels⟩)
    (e97 : PySem.W.codeIn K cd_check_wheels "check_wheels" = true)
    (e98 : PySem.W.keepIn K (.ref f_check_wheels) = true)
    (e99 : PySem.W.nsIn K mainGlobals "slot_spans" = some (some (.ref f_slot_spans)))
    (e100 : K.lookup f_slot_spans = some ⟨oc_slot_spans, od_slot_spans, .func (PySem.W.fnOf "slot_spans" "slot_spans" (defArgs s_slot_spans) (defBody s_slot_spans) (defScope s_slot_spans) .none kV_slot_spans dc_slot_spans pm_slot_spans an_slot_spans cd_slot_spans ct_slot_spans), sl_slot_spans⟩)
    (e101 : PySem.W.codeIn K cd_slot_spans "slot_spans" = true)
    (e102 : PySem.W.keepIn K (.ref f_slot_spans) = true)
    (e103 : PySem.W.findIn K (.ref C_Wheels) "__init__" = some (some (.ref f_Wheels___init__)))
    (e104 : PySem.W.isFn K (.ref f_Wheels___init__) = true)
    (e105 : K.lookup f_Wheels___init__ = some ⟨oc_Wheels___init__, od_Wheels___init__, .func (PySem.W.fnOf "__init__" "Wheels.__init__" (defArgs s_Wheels___init__) (defBody s_Wheels___init__) (defScope s_Wheels___init__) .none kV_Wheels___init__ dc_Wheels___init__ pm_Wheels___init__ an_Wheels___init__ cd_Wheels___init__ ct_Wheels___init__), sl_Wheels___init__⟩)
    (e106 : PySem.W.codeIn K cd_Wheels___init__ "Wheels.__init__" = true)
    (e107 : PySem.W.keepIn K (.ref f_Wheels___init__) = true)
    (e108 : PySem.W.makesIn K C_Wheels = true)
    (e109 : PySem.W.keepIn K (.ref C_Wheels) = true)
    (e110 : PySem.W.findIn K (.ref C_Wheels) "place" = some (some (.ref f_Wheels_place)))
    (e111 : PySem.W.isFn K (.ref f_Wheels_place) = true)
    (e112 : K.lookup f_Wheels_place = some ⟨oc_Wheels_place, od_Wheels_place, .func (PySem.W.fnOf "place" "Wheels.place" (defArgs s_Wheels_place) (defBody s_Wheels_place) (defScope s_Wheels_place) .none kV_Wheels_place dc_Wheels_place pm_Wheels_place an_Wheels_place cd_Wheels_place ct_Wheels_place), sl_Wheels_place⟩)
    (e113 : PySem.W.codeIn K cd_Wheels_place "Wheels.place" = true)
    (e114 : PySem.W.keepIn K (.ref f_Wheels_place) = true)
    (e115 : PySem.W.nsIn K mainGlobals "position" = some (some (.ref f_position)))
    (e116 : K.lookup f_position = some ⟨oc_position, od_position, .func (PySem.W.fnOf "position" "position" (defArgs s_position) (defBody s_position) (defScope s_position) .none kV_position dc_position pm_position an_position cd_position ct_position), sl_position⟩)
    (e117 : PySem.W.codeIn K cd_position "position" = true)
    (e118 : PySem.W.keepIn K (.ref f_position) = true)
    (e119 : PySem.W.findIn K (.ref C_Row) "__init__" = some (some (.ref f_Row___init__)))
    (e120 : PySem.W.isFn K (.ref f_Row___init__) = true)
    (e121 : K.lookup f_Row___init__ = some ⟨oc_Row___init__, od_Row___init__, .func (PySem.W.fnOf "__init__" "Row.__init__" (defArgs s_Row___init__) (defBody s_Row___init__) (defScope s_Row___init__) .none kV_Row___init__ dc_Row___init__ pm_Row___init__ an_Row___init__ cd_Row___init__ ct_Row___init__), sl_Row___init__⟩)
    (e122 : PySem.W.codeIn K cd_Row___init__ "Row.__init__" = true)
    (e123 : PySem.W.keepIn K (.ref f_Row___init__) = true)
    (e124 : PySem.W.makesIn K C_Row = true)
    (e125 : PySem.W.keepIn K (.ref C_Row) = true)
    (e126 : PySem.W.findIn K (.ref C_Row) "put" = some (some (.ref f_Row_put)))
    (e127 : PySem.W.isFn K (.ref f_Row_put) = true)
    (e128 : K.lookup f_Row_put = some ⟨oc_Row_put, od_Row_put, .func (PySem.W.fnOf "put" "Row.put" (defArgs s_Row_put) (defBody s_Row_put) (defScope s_Row_put) .none kV_Row_put dc_Row_put pm_Row_put an_Row_put cd_Row_put ct_Row_put), sl_Row_put⟩)
    (e129 : PySem.W.codeIn K cd_Row_put "Row.put" = true)
    (e130 : PySem.W.keepIn K (.ref f_Row_put) = true)
    (e131 : PySem.W.findIn K (.ref C_Row) "take_slot" = some (some (.ref f_Row_take_slot)))
    (e132 : PySem.W.isFn K (.ref f_Row_take_slot) = true)
    (e133 : K.lookup f_Row_take_slot = some ⟨oc_Row_take_slot, od_Row_take_slot, .func (PySem.W.fnOf "take_slot" "Row.take_slot" (defArgs s_Row_take_slot) (defBody s_Row_take_slot) (defScope s_Row_take_slot) .none kV_Row_take_slot dc_Row_take_slot pm_Row_take_slot an_Row_take_slot cd_Row_take_slot ct_Row_take_slot), sl_Row_take_slot⟩)
    (e134 : PySem.W.codeIn K cd_Row_take_slot "Row.take_slot" = true)
    (e135 : PySem.W.keepIn K (.ref f_Row_take_slot) = true)
    (e136 : PySem.W.findIn K (.ref C_Row) "numbers_in" = some (some (.ref f_Row_numbers_in)))
    (e137 : PySem.W.isFn K (.ref f_Row_numbers_in) = true)
    (e138 : K.lookup f_Row_numbers_in = some ⟨oc_Row_numbers_in, od_Row_numbers_in, .func (PySem.W.fnOf "numbers_in" "Row.numbers_in" (defArgs s_Row_numbers_in) (defBody s_Row_numbers_in) (defScope s_Row_numbers_in) .none kV_Row_numbers_in dc_Row_numbers_in pm_Row_numbers_in an_Row_numbers_in cd_Row_numbers_in ct_Row_numbers_in), sl_Row_numbers_in⟩)
    (e139 : PySem.W.codeIn K cd_Row_numbers_in "Row.numbers_in" = true)
    (e140 : PySem.W.keepIn K (.ref f_Row_numbers_in) = true)
    (e141 : PySem.W.findIn K (.ref C_Rack) "__init__" = some (some (.ref f_Rack___init__)))
    (e142 : PySem.W.isFn K (.ref f_Rack___init__) = true)
    (e143 : K.lookup f_Rack___init__ = some ⟨oc_Rack___init__, od_Rack___init__, .func (PySem.W.fnOf "__init__" "Rack.__init__" (defArgs s_Rack___init__) (defBody s_Rack___init__) (defScope s_Rack___init__) .none kV_Rack___init__ dc_Rack___init__ pm_Rack___init__ an_Rack___init__ cd_Rack___init__ ct_Rack___init__), sl_Rack___init__⟩)
    (e144 : PySem.W.codeIn K cd_Rack___init__ "Rack.__init__" = true)
    (e145 : PySem.W.keepIn K (.ref f_Rack___init__) = true)
    (e146 : PySem.W.makesIn K C_Rack = true)
    (e147 : PySem.W.keepIn K (.ref C_Rack) = true)
    (e148 : PySem.W.findIn K (.ref C_Rack) "row_of" = some (some (.ref f_Rack_row_of)))
    (e149 : PySem.W.isFn K (.ref f_Rack_row_of) = true)
    (e150 : K.lookup f_Rack_row_of = some ⟨oc_Rack_row_of, od_Rack_row_of, .func (PySem.W.fnOf "row_of" "Rack.row_of" (defArgs s_Rack_row_of) (defBody s_Rack_row_of) (defScope s_Rack_row_of) .none kV_Rack_row_of dc_Rack_row_of pm_Rack_row_of an_Rack_row_of cd_Rack_row_of ct_Rack_row_of), sl_Rack_row_of⟩)
    (e151 : PySem.W.codeIn K cd_Rack_row_of "Rack.row_of" = true)
    (e152 : PySem.W.keepIn K (.ref f_Rack_row_of) = true)
    (e153 : PySem.W.findIn K (.ref C_Rack) "put" = some (some (.ref f_Rack_put)))
    (e154 : PySem.W.isFn K (.ref f_Rack_put) = true)
    (e155 : K.lookup f_Rack_put = some ⟨oc_Rack_put, od_Rack_put, .func (PySem.W.fnOf "put" "Rack.put" (defArgs s_Rack_put) (defBody s_Rack_put) (defScope s_Rack_put) .none kV_Rack_put dc_Rack_put pm_Rack_put an_Rack_put cd_Rack_put ct_Rack_put), sl_Rack_put⟩)
    (e156 : PySem.W.codeIn K cd_Rack_put "Rack.put" = true)
    (e157 : PySem.W.keepIn K (.ref f_Rack_put) = true)
    (e158 : PySem.W.findIn K (.ref C_Rack) "first_row" = some (some (.ref f_Rack_first_row)))
    (e159 : PySem.W.isFn K (.ref f_Rack_first_row) = true)
    (e160 : K.lookup f_Rack_first_row = some ⟨oc_Rack_first_row, od_Rack_first_row, .func (PySem.W.fnOf "first_row" "Rack.first_row" (defArgs s_Rack_first_row) (defBody s_Rack_first_row) (defScope s_Rack_first_row) .none kV_Rack_first_row dc_Rack_first_row pm_Rack_first_row an_Rack_first_row cd_Rack_first_row ct_Rack_first_row), sl_Rack_first_row⟩)
    (e161 : PySem.W.codeIn K cd_Rack_first_row "Rack.first_row" = true)
    (e162 : PySem.W.keepIn K (.ref f_Rack_first_row) = true)
    (e163 : PySem.W.findIn K (.ref C_Rack) "first_start" = some (some (.ref f_Rack_first_start)))
    (e164 : PySem.W.isFn K (.ref f_Rack_first_start) = true)
    (e165 : K.lookup f_Rack_first_start = some ⟨oc_Rack_first_start, od_Rack_first_start, .func (PySem.W.fnOf "first_start" "Rack.first_start" (defArgs s_Rack_first_start) (defBody s_Rack_first_start) (defScope s_Rack_first_start) .none kV_Rack_first_start dc_Rack_first_start pm_Rack_first_start an_Rack_first_start cd_Rack_first_start ct_Rack_first_start), sl_Rack_first_start⟩)
    (e166 : PySem.W.codeIn K cd_Rack_first_start "Rack.first_start" = true)
    (e167 : PySem.W.keepIn K (.ref f_Rack_first_start) = true)
    (e168 : PySem.W.findIn K (.ref C_Rack) "first_numbers" = some (some (.ref f_Rack_first_numbers)))
    (e169 : PySem.W.isFn K (.ref f_Rack_first_numbers) = true)
    (e170 : K.lookup f_Rack_first_numbers = some ⟨oc_Rack_first_numbers, od_Rack_first_numbers, .func (PySem.W.fnOf "first_numbers" "Rack.first_numbers" (defArgs s_Rack_first_numbers) (defBody s_Rack_first_numbers) (defScope s_Rack_first_numbers) .none kV_Rack_first_numbers dc_Rack_first_numbers pm_Rack_first_numbers an_Rack_first_numbers cd_Rack_first_numbers ct_Rack_first_numbers), sl_Rack_first_numbers⟩)
    (e171 : PySem.W.codeIn K cd_Rack_first_numbers "Rack.first_numbers" = true)
    (e172 : PySem.W.keepIn K (.ref f_Rack_first_numbers) = true)
    (e173 : PySem.W.findIn K (.ref C_Rack) "take_first" = some (some (.ref f_Rack_take_first)))
    (e174 : PySem.W.isFn K (.ref f_Rack_take_first) = true)
    (e175 : K.lookup f_Rack_take_first = some ⟨oc_Rack_take_first, od_Rack_take_first, .func (PySem.W.fnOf "take_first" "Rack.take_first" (defArgs s_Rack_take_first) (defBody s_Rack_take_first) (defScope s_Rack_take_first) .none kV_Rack_take_first dc_Rack_take_first pm_Rack_take_first an_Rack_take_first cd_Rack_take_first ct_Rack_take_first), sl_Rack_take_first⟩)
    (e176 : PySem.W.codeIn K cd_Rack_take_first "Rack.take_first" = true)
    (e177 : PySem.W.keepIn K (.ref f_Rack_take_first) = true)
    (e178 : PySem.W.findIn K (.ref C_Book) "__init__" = some (some (.ref f_Book___init__)))
    (e179 : PySem.W.isFn K (.ref f_Book___init__) = true)
    (e180 : K.lookup f_Book___init__ = some ⟨oc_Book___init__, od_Book___init__, .func (PySem.W.fnOf "__init__" "Book.__init__" (defArgs s_Book___init__) (defBody s_Book___init__) (defScope s_Book___init__) .none kV_Book___init__ dc_Book___init__ pm_Book___init__ an_Book___init__ cd_Book___init__ ct_Book___init__), sl_Book___init__⟩)
    (e181 : PySem.W.codeIn K cd_Book___init__ "Book.__init__" = true)
    (e182 : PySem.W.keepIn K (.ref f_Book___init__) = true)
    (e183 : PySem.W.makesIn K C_Book = true)
    (e184 : PySem.W.keepIn K (.ref C_Book) = true)
    (e185 : PySem.W.findIn K (.ref C_Book) "time" = some (some (.ref f_Book_time)))
    (e186 : PySem.W.isFn K (.ref f_Book_time) = true)
    (e187 : K.lookup f_Book_time = some ⟨oc_Book_time, od_Book_time, .func (PySem.W.fnOf "time" "Book.time" (defArgs s_Book_time) (defBody s_Book_time) (defScope s_Book_time) .none kV_Book_time dc_Book_time pm_Book_time an_Book_time cd_Book_time ct_Book_time), sl_Book_time⟩)
    (e188 : PySem.W.codeIn K cd_Book_time "Book.time" = true)
    (e189 : PySem.W.keepIn K (.ref f_Book_time) = true)
    (e190 : PySem.W.findIn K (.ref C_Book) "waiting" = some (some (.ref f_Book_waiting)))
    (e191 : PySem.W.isFn K (.ref f_Book_waiting) = true)
    (e192 : K.lookup f_Book_waiting = some ⟨oc_Book_waiting, od_Book_waiting, .func (PySem.W.fnOf "waiting" "Book.waiting" (defArgs s_Book_waiting) (defBody s_Book_waiting) (defScope s_Book_waiting) .none kV_Book_waiting dc_Book_waiting pm_Book_waiting an_Book_waiting cd_Book_waiting ct_Book_waiting), sl_Book_waiting⟩)
    (e193 : PySem.W.codeIn K cd_Book_waiting "Book.waiting" = true)
    (e194 : PySem.W.keepIn K (.ref f_Book_waiting) = true)
    (e195 : PySem.W.findIn K (.ref C_Book) "due" = some (some (.ref f_Book_due)))
    (e196 : PySem.W.isFn K (.ref f_Book_due) = true)
    (e197 : K.lookup f_Book_due = some ⟨oc_Book_due, od_Book_due, .func (PySem.W.fnOf "due" "Book.due" (defArgs s_Book_due) (defBody s_Book_due) (defScope s_Book_due) .none kV_Book_due dc_Book_due pm_Book_due an_Book_due cd_Book_due ct_Book_due), sl_Book_due⟩)
    (e198 : PySem.W.codeIn K cd_Book_due "Book.due" = true)
    (e199 : PySem.W.keepIn K (.ref f_Book_due) = true)
    (e200 : PySem.W.findIn K (.ref C_Book) "soonest" = some (some (.ref f_Book_soonest)))
    (e201 : PySem.W.isFn K (.ref f_Book_soonest) = true)
    (e202 : K.lookup f_Book_soonest = some ⟨oc_Book_soonest, od_Book_soonest, .func (PySem.W.fnOf "soonest" "Book.soonest" (defArgs s_Book_soonest) (defBody s_Book_soonest) (defScope s_Book_soonest) .none kV_Book_soonest dc_Book_soonest pm_Book_soonest an_Book_soonest cd_Book_soonest ct_Book_soonest), sl_Book_soonest⟩)
    (e203 : PySem.W.codeIn K cd_Book_soonest "Book.soonest" = true)
    (e204 : PySem.W.keepIn K (.ref f_Book_soonest) = true)
    (e205 : PySem.W.nsIn K mainGlobals "check_tick" = some (some (.ref f_check_tick)))
    (e206 : K.lookup f_check_tick = some ⟨oc_check_tick, od_check_tick, .func (PySem.W.fnOf "check_tick" "check_tick" (defArgs s_check_tick) (defBody s_check_tick) (defScope s_check_tick) .none kV_check_tick dc_check_tick pm_check_tick an_check_tick cd_check_tick ct_check_tick), sl_check_tick⟩)
    (e207 : PySem.W.codeIn K cd_check_tick "check_tick" = true)
    (e208 : PySem.W.keepIn K (.ref f_check_tick) = true)
    (e209 : PySem.W.nsIn K mainGlobals "check_step" = some (some (.ref f_check_step)))
    (e210 : K.lookup f_check_step = some ⟨oc_check_step, od_check_step, .func (PySem.W.fnOf "check_step" "check_step" (defArgs s_check_step) (defBody s_check_step) (defScope s_check_step) .none kV_check_step dc_check_step pm_check_step an_check_step cd_check_step ct_check_step), sl_check_step⟩)
    (e211 : PySem.W.codeIn K cd_check_step "check_step" = true)
    (e212 : PySem.W.keepIn K (.ref f_check_step) = true)
    (e213 : PySem.W.nsIn K mainGlobals "check_stretch" = some (some (.ref f_check_stretch)))
    (e214 : K.lookup f_check_stretch = some ⟨oc_check_stretch, od_check_stretch, .func (PySem.W.fnOf "check_stretch" "check_stretch" (defArgs s_check_stretch) (defBody s_check_stretch) (defScope s_check_stretch) .none kV_check_stretch dc_check_stretch pm_check_stretch an_check_stretch cd_check_stretch ct_check_stretch), sl_check_stretch⟩)
    (e215 : PySem.W.codeIn K cd_check_stretch "check_stretch" = true)
    (e216 : PySem.W.keepIn K (.ref f_check_stretch) = true)
    (e217 : PySem.W.nsIn K mainGlobals "start_waiting" = some (some (.ref f_start_waiting)))
    (e218 : K.lookup f_start_waiting = some ⟨oc_start_waiting, od_start_waiting, .func (PySem.W.fnOf "start_waiting" "start_waiting" (defArgs s_start_waiting) (defBody s_start_waiting) (defScope s_start_waiting) .none kV_start_waiting dc_start_waiting pm_start_waiting an_start_waiting cd_start_waiting ct_start_waiting), sl_start_waiting⟩)
    (e219 : PySem.W.codeIn K cd_start_waiting "start_waiting" = true)
    (e220 : PySem.W.keepIn K (.ref f_start_waiting) = true)
    (e221 : PySem.W.nsIn K mainGlobals "forget" = some (some (.ref f_forget)))
    (e222 : K.lookup f_forget = some ⟨oc_forget, od_forget, .func (PySem.W.fnOf "forget" "forget" (defArgs s_forget) (defBody s_forget) (defScope s_forget) .none kV_forget dc_forget pm_forget an_forget cd_forget ct_forget), sl_forget⟩)
    (e223 : PySem.W.codeIn K cd_forget "forget" = true)
    (e224 : PySem.W.keepIn K (.ref f_forget) = true)
    (e225 : PySem.W.nsIn K mainGlobals "set_alarm" = some (some (.ref f_set_alarm)))
    (e226 : K.lookup f_set_alarm = some ⟨oc_set_alarm, od_set_alarm, .func (PySem.W.fnOf "set_alarm" "set_alarm" (defArgs s_set_alarm) (defBody s_set_alarm) (defScope s_set_alarm) .none kV_set_alarm dc_set_alarm pm_set_alarm an_set_alarm cd_set_alarm ct_set_alarm), sl_set_alarm⟩)
    (e227 : PySem.W.codeIn K cd_set_alarm "set_alarm" = true)
    (e228 : PySem.W.keepIn K (.ref f_set_alarm) = true)
    (e229 : PySem.W.nsIn K mainGlobals "ring" = some (some (.ref f_ring)))
    (e230 : K.lookup f_ring = some ⟨oc_ring, od_ring, .func (PySem.W.fnOf "ring" "ring" (defArgs s_ring) (defBody s_ring) (defScope s_ring) .none kV_ring dc_ring pm_ring an_ring cd_ring ct_ring), sl_ring⟩)
    (e231 : PySem.W.codeIn K cd_ring "ring" = true)
    (e232 : PySem.W.keepIn K (.ref f_ring) = true)
    (e233 : PySem.W.nsIn K mainGlobals "turn_to" = some (some (.ref f_turn_to)))
    (e234 : K.lookup f_turn_to = some ⟨oc_turn_to, od_turn_to, .func (PySem.W.fnOf "turn_to" "turn_to" (defArgs s_turn_to) (defBody s_turn_to) (defScope s_turn_to) .none kV_turn_to dc_turn_to pm_turn_to an_turn_to cd_turn_to ct_turn_to), sl_turn_to⟩)
    (e235 : PySem.W.codeIn K cd_turn_to "turn_to" = true)
    (e236 : PySem.W.keepIn K (.ref f_turn_to) = true)
    (e237 : PySem.W.nsIn K mainGlobals "pass_ticks" = some (some (.ref f_pass_ticks)))
    (e238 : K.lookup f_pass_ticks = some ⟨oc_pass_ticks, od_pass_ticks, .func (PySem.W.fnOf "pass_ticks" "pass_ticks" (defArgs s_pass_ticks) (defBody s_pass_ticks) (defScope s_pass_ticks) .none kV_pass_ticks dc_pass_ticks pm_pass_ticks an_pass_ticks cd_pass_ticks ct_pass_ticks), sl_pass_ticks⟩)
    (e239 : PySem.W.codeIn K cd_pass_ticks "pass_ticks" = true)
    (e240 : PySem.W.keepIn K (.ref f_pass_ticks) = true)
    (e241 : PySem.W.nsIn K mainGlobals "_law_cell" = some (some (.ref f__law_cell)))
    (e242 : K.lookup f__law_cell = some ⟨oc__law_cell, od__law_cell, .func (PySem.W.fnOf "_law_cell" "_law_cell" (defArgs s__law_cell) (defBody s__law_cell) (defScope s__law_cell) .none kV__law_cell dc__law_cell pm__law_cell an__law_cell cd__law_cell ct__law_cell), sl__law_cell⟩)
    (e243 : PySem.W.codeIn K cd__law_cell "_law_cell" = true)
    (e244 : PySem.W.keepIn K (.ref f__law_cell) = true)
    (e245 : PySem.W.nsIn K mainGlobals "_law_mix" = some (some (.ref f__law_mix)))
    (e246 : K.lookup f__law_mix = some ⟨oc__law_mix, od__law_mix, .func (PySem.W.fnOf "_law_mix" "_law_mix" (defArgs s__law_mix) (defBody s__law_mix) (defScope s__law_mix) .none kV__law_mix dc__law_mix pm__law_mix an__law_mix cd__law_mix ct__law_mix), sl__law_mix⟩)
    (e247 : PySem.W.codeIn K cd__law_mix "_law_mix" = true)
    (e248 : PySem.W.keepIn K (.ref f__law_mix) = true)
    (e249 : PySem.W.nsIn K mainGlobals "_law_whole" = some (some (.ref f__law_whole)))
    (e250 : K.lookup f__law_whole = some ⟨oc__law_whole, od__law_whole, .func (PySem.W.fnOf "_law_whole" "_law_whole" (defArgs s__law_whole) (defBody s__law_whole) (defScope s__law_whole) .none kV__law_whole dc__law_whole pm__law_whole an__law_whole cd__law_whole ct__law_whole), sl__law_whole⟩)
    (e251 : PySem.W.codeIn K cd__law_whole "_law_whole" = true)
    (e252 : PySem.W.keepIn K (.ref f__law_whole) = true)
    (e253 : PySem.W.nsIn K mainGlobals "_law_made" = some (some (.ref f__law_made)))
    (e254 : K.lookup f__law_made = some ⟨oc__law_made, od__law_made, .func (PySem.W.fnOf "_law_made" "_law_made" (defArgs s__law_made) (defBody s__law_made) (defScope s__law_made) .none kV__law_made dc__law_made pm__law_made an__law_made cd__law_made ct__law_made), sl__law_made⟩)
    (e255 : PySem.W.codeIn K cd__law_made "_law_made" = true)
    (e256 : PySem.W.keepIn K (.ref f__law_made) = true)
    (e257 : PySem.W.nsIn K mainGlobals "_law_set" = some (some (.ref f__law_set)))
    (e258 : K.lookup f__law_set = some ⟨oc__law_set, od__law_set, .func (PySem.W.fnOf "_law_set" "_law_set" (defArgs s__law_set) (defBody s__law_set) (defScope s__law_set) .none kV__law_set dc__law_set pm__law_set an__law_set cd__law_set ct__law_set), sl__law_set⟩)
    (e259 : PySem.W.codeIn K cd__law_set "_law_set" = true)
    (e260 : PySem.W.keepIn K (.ref f__law_set) = true)
    (e261 : PySem.W.nsIn K mainGlobals "law" = some (some (.ref f_law)))
    (e262 : K.lookup f_law = some ⟨oc_law, od_law, .func (PySem.W.fnOf "law" "law" (defArgs s_law) (defBody s_law) (defScope s_law) .none kV_law dc_law pm_law an_law cd_law ct_law), sl_law⟩)
    (e263 : PySem.W.codeIn K cd_law "law" = true)
    (e264 : PySem.W.keepIn K (.ref f_law) = true)
    (e265 : PySem.W.findIn K (.ref C_Book) "__class__" = some (some (.builtin "object.__class__")))
    (e266 : PySem.W.specialIn K (.builtin "object.__class__") "__get__" = some (some (.builtin "getset_descriptor.__get__")))
    (e267 : PySem.W.takesIn K (.builtin "object.__class__") = some true)
    (e268 : PySem.W.mroIn K C_Book (.type "object") = some true)
    (e269 : PySem.W.subIn K (.ref C_Book) (.type "str") = some false)
    (e270 : PySem.W.subIn K (.type "int") (.type "bool") = some false)
    (e271 : PySem.W.subIn K (.type "int") (.type "str") = some false)
    (e272 : PySem.W.subIn K (.type "str") (.type "int") = some false)
    (e273 : PySem.W.subIn K (.type "str") (.type "bool") = some false)
    (e274 : PySem.W.nsIn K mainGlobals "len" = some none)
    (e275 : PySem.W.nsIn K mainGlobals "range" = some none)
    (e276 : PySem.W.nsIn K mainGlobals "sorted" = some none)
    (e277 : PySem.W.nsIn K mainGlobals "min" = some none)
    (e278 : PySem.W.nsIn K mainGlobals "isinstance" = some none)
    (e279 : PySem.W.nsIn K mainGlobals "int" = some none)
    (e280 : PySem.W.nsIn K mainGlobals "bool" = some none)
    (e281 : PySem.W.nsIn K mainGlobals "str" = some none)
    (e282 : PySem.W.nsIn K mainGlobals "tuple" = some none)
    (e283 : PySem.W.nsIn K mainGlobals "list" = some none)
    (e284 : PySem.W.nsIn K mainGlobals "ValueError" = some none)
    (e285 : PySem.W.nsIn K mainGlobals "enumerate" = some none)
    (e286 : PySem.W.nsIn K mainGlobals "FEWEST_SLOTS" = some (some (.int (2) t_FEWEST_SLOTS)))
    (e287 : PySem.W.nsIn K mainGlobals "MOST_SLOTS" = some (some (.int (64) t_MOST_SLOTS)))
    (e288 : PySem.W.nsIn K mainGlobals "FEWEST_LEVELS" = some (some (.int (1) t_FEWEST_LEVELS)))
    (e289 : PySem.W.nsIn K mainGlobals "MOST_LEVELS" = some (some (.int (6) t_MOST_LEVELS)))
    : ∃ a : Ad, Txt K mg a :=
  ⟨⟨f_check_wheels, PySem.W.fnOf "check_wheels" "check_wheels" (defArgs s_check_wheels) (defBody s_check_wheels) (defScope s_check_wheels) .none kV_check_wheels dc_check_wheels pm_check_wheels an_check_wheels cd_check_wheels ct_check_wheels, f_slot_spans, PySem.W.fnOf "slot_spans" "slot_spans" (defArgs s_slot_spans) (defBody s_slot_spans) (defScope s_slot_spans) .none kV_slot_spans dc_slot_spans pm_slot_spans an_slot_spans cd_slot_spans ct_slot_spans, f_Wheels___init__, PySem.W.fnOf "__init__" "Wheels.__init__" (defArgs s_Wheels___init__) (defBody s_Wheels___init__) (defScope s_Wheels___init__) .none kV_Wheels___init__ dc_Wheels___init__ pm_Wheels___init__ an_Wheels___init__ cd_Wheels___init__ ct_Wheels___init__, f_Wheels_place, PySem.W.fnOf "place" "Wheels.place" (defArgs s_Wheels_place) (defBody s_Wheels_place) (defScope s_Wheels_place) .none kV_Wheels_place dc_Wheels_place pm_Wheels_place an_Wheels_place cd_Wheels_place ct_Wheels_place, f_position, PySem.W.fnOf "position" "position" (defArgs s_position) (defBody s_position) (defScope s_position) .none kV_position dc_position pm_position an_position cd_position ct_position, f_Row___init__, PySem.W.fnOf "__init__" "Row.__init__" (defArgs s_Row___init__) (defBody s_Row___init__) (defScope s_Row___init__) .none kV_Row___init__ dc_Row___init__ pm_Row___init__ an_Row___init__ cd_Row___init__ ct_Row___init__, f_Row_put, PySem.W.fnOf "put" "Row.put" (defArgs s_Row_put) (defBody s_Row_put) (defScope s_Row_put) .none kV_Row_put dc_Row_put pm_Row_put an_Row_put cd_Row_put ct_Row_put, f_Row_take_slot, PySem.W.fnOf "take_slot" "Row.take_slot" (defArgs s_Row_take_slot) (defBody s_Row_take_slot) (defScope s_Row_take_slot) .none kV_Row_take_slot dc_Row_take_slot pm_Row_take_slot an_Row_take_slot cd_Row_take_slot ct_Row_take_slot, f_Row_numbers_in, PySem.W.fnOf "numbers_in" "Row.numbers_in" (defArgs s_Row_numbers_in) (defBody s_Row_numbers_in) (defScope s_Row_numbers_in) .none kV_Row_numbers_in dc_Row_numbers_in pm_Row_numbers_in an_Row_numbers_in cd_Row_numbers_in ct_Row_numbers_in, f_Rack___init__, PySem.W.fnOf "__init__" "Rack.__init__" (defArgs s_Rack___init__) (defBody s_Rack___init__) (defScope s_Rack___init__) .none kV_Rack___init__ dc_Rack___init__ pm_Rack___init__ an_Rack___init__ cd_Rack___init__ ct_Rack___init__, f_Rack_row_of, PySem.W.fnOf "row_of" "Rack.row_of" (defArgs s_Rack_row_of) (defBody s_Rack_row_of) (defScope s_Rack_row_of) .none kV_Rack_row_of dc_Rack_row_of pm_Rack_row_of an_Rack_row_of cd_Rack_row_of ct_Rack_row_of, f_Rack_put, PySem.W.fnOf "put" "Rack.put" (defArgs s_Rack_put) (defBody s_Rack_put) (defScope s_Rack_put) .none kV_Rack_put dc_Rack_put pm_Rack_put an_Rack_put cd_Rack_put ct_Rack_put, f_Rack_first_row, PySem.W.fnOf "first_row" "Rack.first_row" (defArgs s_Rack_first_row) (defBody s_Rack_first_row) (defScope s_Rack_first_row) .none kV_Rack_first_row dc_Rack_first_row pm_Rack_first_row an_Rack_first_row cd_Rack_first_row ct_Rack_first_row, f_Rack_first_start, PySem.W.fnOf "first_start" "Rack.first_start" (defArgs s_Rack_first_start) (defBody s_Rack_first_start) (defScope s_Rack_first_start) .none kV_Rack_first_start dc_Rack_first_start pm_Rack_first_start an_Rack_first_start cd_Rack_first_start ct_Rack_first_start, f_Rack_first_numbers, PySem.W.fnOf "first_numbers" "Rack.first_numbers" (defArgs s_Rack_first_numbers) (defBody s_Rack_first_numbers) (defScope s_Rack_first_numbers) .none kV_Rack_first_numbers dc_Rack_first_numbers pm_Rack_first_numbers an_Rack_first_numbers cd_Rack_first_numbers ct_Rack_first_numbers, f_Rack_take_first, PySem.W.fnOf "take_first" "Rack.take_first" (defArgs s_Rack_take_first) (defBody s_Rack_take_first) (defScope s_Rack_take_first) .none kV_Rack_take_first dc_Rack_take_first pm_Rack_take_first an_Rack_take_first cd_Rack_take_first ct_Rack_take_first, f_Book___init__, PySem.W.fnOf "__init__" "Book.__init__" (defArgs s_Book___init__) (defBody s_Book___init__) (defScope s_Book___init__) .none kV_Book___init__ dc_Book___init__ pm_Book___init__ an_Book___init__ cd_Book___init__ ct_Book___init__, f_Book_time, PySem.W.fnOf "time" "Book.time" (defArgs s_Book_time) (defBody s_Book_time) (defScope s_Book_time) .none kV_Book_time dc_Book_time pm_Book_time an_Book_time cd_Book_time ct_Book_time, f_Book_waiting, PySem.W.fnOf "waiting" "Book.waiting" (defArgs s_Book_waiting) (defBody s_Book_waiting) (defScope s_Book_waiting) .none kV_Book_waiting dc_Book_waiting pm_Book_waiting an_Book_waiting cd_Book_waiting ct_Book_waiting, f_Book_due, PySem.W.fnOf "due" "Book.due" (defArgs s_Book_due) (defBody s_Book_due) (defScope s_Book_due) .none kV_Book_due dc_Book_due pm_Book_due an_Book_due cd_Book_due ct_Book_due, f_Book_soonest, PySem.W.fnOf "soonest" "Book.soonest" (defArgs s_Book_soonest) (defBody s_Book_soonest) (defScope s_Book_soonest) .none kV_Book_soonest dc_Book_soonest pm_Book_soonest an_Book_soonest cd_Book_soonest ct_Book_soonest, f_check_tick, PySem.W.fnOf "check_tick" "check_tick" (defArgs s_check_tick) (defBody s_check_tick) (defScope s_check_tick) .none kV_check_tick dc_check_tick pm_check_tick an_check_tick cd_check_tick ct_check_tick, f_check_step, PySem.W.fnOf "check_step" "check_step" (defArgs s_check_step) (defBody s_check_step) (defScope s_check_step) .none kV_check_step dc_check_step pm_check_step an_check_step cd_check_step ct_check_step, f_check_stretch, PySem.W.fnOf "check_stretch" "check_stretch" (defArgs s_check_stretch) (defBody s_check_stretch) (defScope s_check_stretch) .none kV_check_stretch dc_check_stretch pm_check_stretch an_check_stretch cd_check_stretch ct_check_stretch, f_start_waiting, PySem.W.fnOf "start_waiting" "start_waiting" (defArgs s_start_waiting) (defBody s_start_waiting) (defScope s_start_waiting) .none kV_start_waiting dc_start_waiting pm_start_waiting an_start_waiting cd_start_waiting ct_start_waiting, f_forget, PySem.W.fnOf "forget" "forget" (defArgs s_forget) (defBody s_forget) (defScope s_forget) .none kV_forget dc_forget pm_forget an_forget cd_forget ct_forget, f_set_alarm, PySem.W.fnOf "set_alarm" "set_alarm" (defArgs s_set_alarm) (defBody s_set_alarm) (defScope s_set_alarm) .none kV_set_alarm dc_set_alarm pm_set_alarm an_set_alarm cd_set_alarm ct_set_alarm, f_ring, PySem.W.fnOf "ring" "ring" (defArgs s_ring) (defBody s_ring) (defScope s_ring) .none kV_ring dc_ring pm_ring an_ring cd_ring ct_ring, f_turn_to, PySem.W.fnOf "turn_to" "turn_to" (defArgs s_turn_to) (defBody s_turn_to) (defScope s_turn_to) .none kV_turn_to dc_turn_to pm_turn_to an_turn_to cd_turn_to ct_turn_to, f_pass_ticks, PySem.W.fnOf "pass_ticks" "pass_ticks" (defArgs s_pass_ticks) (defBody s_pass_ticks) (defScope s_pass_ticks) .none kV_pass_ticks dc_pass_ticks pm_pass_ticks an_pass_ticks cd_pass_ticks ct_pass_ticks, f__law_cell, PySem.W.fnOf "_law_cell" "_law_cell" (defArgs s__law_cell) (defBody s__law_cell) (defScope s__law_cell) .none kV__law_cell dc__law_cell pm__law_cell an__law_cell cd__law_cell ct__law_cell, f__law_mix, PySem.W.fnOf "_law_mix" "_law_mix" (defArgs s__law_mix) (defBody s__law_mix) (defScope s__law_mix) .none kV__law_mix dc__law_mix pm__law_mix an__law_mix cd__law_mix ct__law_mix, f__law_whole, PySem.W.fnOf "_law_whole" "_law_whole" (defArgs s__law_whole) (defBody s__law_whole) (defScope s__law_whole) .none kV__law_whole dc__law_whole pm__law_whole an__law_whole cd__law_whole ct__law_whole, f__law_made, PySem.W.fnOf "_law_made" "_law_made" (defArgs s__law_made) (defBody s__law_made) (defScope s__law_made) .none kV__law_made dc__law_made pm__law_made an__law_made cd__law_made ct__law_made, f__law_set, PySem.W.fnOf "_law_set" "_law_set" (defArgs s__law_set) (defBody s__law_set) (defScope s__law_set) .none kV__law_set dc__law_set pm__law_set an__law_set cd__law_set ct__law_set, f_law, PySem.W.fnOf "law" "law" (defArgs s_law) (defBody s_law) (defScope s_law) .none kV_law dc_law pm_law an_law cd_law ct_law, C_Wheels, C_Row, C_Rack, C_Book, C_TickError, C_BadWheels, C_Past, C_NotThere, t_FEWEST_SLOTS, t_MOST_SLOTS, t_FEWEST_LEVELS, t_MOST_LEVELS⟩, {
    c_Wheels := PySem.W.mg_of X G e1
    cl_Wheels := ⟨e2, e3, e4, e5⟩
    n_Wheels_slots := e6
    n_Wheels_spans := e7
    c_Row := PySem.W.mg_of X G e8
    cl_Row := ⟨e9, e10, e11, e12⟩
    n_Row_span := e13
    n_Row_filled := e14
    n_Row_rising := e15
    c_Rack := PySem.W.mg_of X G e16
    cl_Rack := ⟨e17, e18, e19, e20⟩
    n_Rack_wheels := e21
    n_Rack_rows := e22
    c_Book := PySem.W.mg_of X G e23
    cl_Book := ⟨e24, e25, e26, e27⟩
    n_Book_rack := e28
    n_Book_now := e29
    n_Book_next_number := e30
    n_Book_names := e31
    n_Book_steps := e32
    n_Book_ticks := e33
    n_Book_kept_ticks := e34
    c_TickError := PySem.W.mg_of X G e35
    x_TickError := e36
    ct_TickError := ⟨e39, cls_of_mro e37, e40⟩
    ec_TickError := ⟨e41, e42, e43, e37, e38, cls_of_mro e37⟩
    kv_TickError := kit_ty rfl e45
    c_BadWheels := PySem.W.mg_of X G e46
    x_BadWheels := e47
    ct_BadWheels := ⟨e50, cls_of_mro e48, e51⟩
    ec_BadWheels := ⟨e52, e53, e54, e48, e49, cls_of_mro e48⟩
    kv_BadWheels := kit_ty rfl e56
    c_Past := PySem.W.mg_of X G e57
    x_Past := e58
    ct_Past := ⟨e61, cls_of_mro e59, e62⟩
    ec_Past := ⟨e63, e64, e65, e59, e60, cls_of_mro e59⟩
    kv_Past := kit_ty rfl e67
    c_NotThere := PySem.W.mg_of X G e68
    x_NotThere := e69
    ct_NotThere := ⟨e72, cls_of_mro e70, e73⟩
    ec_NotThere := ⟨e74, e75, e76, e70, e71, cls_of_mro e70⟩
    kv_NotThere := kit_ty rfl e78
    sb_TickError_TickError := e79
    kt_TickError_TickError := kit_same
    sb_TickError_BadWheels := e80
    kt_TickError_BadWheels := kit_refF e55 (cls_of_mro e48) e80 e79
    sb_TickError_Past := e81
    kt_TickError_Past := kit_refF e66 (cls_of_mro e59) e81 e79
    sb_TickError_NotThere := e82
    kt_TickError_NotThere := kit_refF e77 (cls_of_mro e70) e82 e79
    sb_BadWheels_BadWheels := e83
    kt_BadWheels_BadWheels := kit_same
    sb_BadWheels_TickError := e84
    kt_BadWheels_TickError := kit_ref e44 (cls_of_mro e37) e84
    sb_BadWheels_Past := e85
    kt_BadWheels_Past := kit_refF e66 (cls_of_mro e59) e85 e83
    sb_BadWheels_NotThere := e86
    kt_BadWheels_NotThere := kit_refF e77 (cls_of_mro e70) e86 e83
    sb_Past_Past := e87
    kt_Past_Past := kit_same
    sb_Past_TickError := e88
    kt_Past_TickError := kit_ref e44 (cls_of_mro e37) e88
    sb_Past_BadWheels := e89
    kt_Past_BadWheels := kit_refF e55 (cls_of_mro e48) e89 e87
    sb_Past_NotThere := e90
    kt_Past_NotThere := kit_refF e77 (cls_of_mro e70) e90 e87
    sb_NotThere_NotThere := e91
    kt_NotThere_NotThere := kit_same
    sb_NotThere_TickError := e92
    kt_NotThere_TickError := kit_ref e44 (cls_of_mro e37) e92
    sb_NotThere_BadWheels := e93
    kt_NotThere_BadWheels := kit_refF e55 (cls_of_mro e48) e93 e91
    sb_NotThere_Past := e94
    kt_NotThere_Past := kit_refF e66 (cls_of_mro e59) e94 e91
    f_check_wheels := PySem.W.mg_of X G e95
    F_check_wheels := fun_mk e96 e97 e98
    kp_check_wheels := e98
    B_check_wheels := (fun_mk (st := s_check_wheels) e96 e97 e98).binds fun _ _ _ _ _ _ us hl => match us, hl with | [_, _], _ => rfl
    f_slot_spans := PySem.W.mg_of X G e99
    F_slot_spans := fun_mk e100 e101 e102
    kp_slot_spans := e102
    B_slot_spans := (fun_mk (st := s_slot_spans) e100 e101 e102).binds fun _ _ _ _ _ _ us hl => match us, hl with | [_, _], _ => rfl
    F_Wheels___init__ := fun_mk e105 e106 e107
    kp_Wheels___init__ := e107
    B_Wheels___init__ := (fun_mk (st := s_Wheels___init__) e105 e106 e107).binds fun _ _ _ _ _ _ us hl => match us, hl with | [_, _, _], _ => rfl
    m_Wheels___init__ := ⟨e103, e104, e107⟩
    M_Wheels := ⟨e108, e103, e104, e109⟩
    F_Wheels_place := fun_mk e112 e113 e114
    kp_Wheels_place := e114
    B_Wheels_place := (fun_mk (st := s_Wheels_place) e112 e113 e114).binds fun _ _ _ _ _ _ us hl => match us, hl with | [_, _, _], _ => rfl
    m_Wheels_place := ⟨e110, e111, e114⟩
    f_position := PySem.W.mg_of X G e115
    F_position := fun_mk e116 e117 e118
    kp_position := e118
    B_position := (fun_mk (st := s_position) e116 e117 e118).binds fun _ _ _ _ _ _ us hl => match us, hl with | [_, _], _ => rfl
    F_Row___init__ := fun_mk e121 e122 e123
    kp_Row___init__ := e123
    B_Row___init__ := (fun_mk (st := s_Row___init__) e121 e122 e123).binds fun _ _ _ _ _ _ us hl => match us, hl with | [_, _], _ => rfl
    m_Row___init__ := ⟨e119, e120, e123⟩
    M_Row := ⟨e124, e119, e120, e125⟩
    F_Row_put := fun_mk e128 e129 e130
    kp_Row_put := e130
    B_Row_put := (fun_mk (st := s_Row_put) e128 e129 e130).binds fun _ _ _ _ _ _ us hl => match us, hl with | [_, _, _], _ => rfl
    m_Row_put := ⟨e126, e127, e130⟩
    F_Row_take_slot := fun_mk e133 e134 e135
    kp_Row_take_slot := e135
    B_Row_take_slot := (fun_mk (st := s_Row_take_slot) e133 e134 e135).binds fun _ _ _ _ _ _ us hl => match us, hl with | [_, _], _ => rfl
    m_Row_take_slot := ⟨e131, e132, e135⟩
    F_Row_numbers_in := fun_mk e138 e139 e140
    kp_Row_numbers_in := e140
    B_Row_numbers_in := (fun_mk (st := s_Row_numbers_in) e138 e139 e140).binds fun _ _ _ _ _ _ us hl => match us, hl with | [_, _], _ => rfl
    m_Row_numbers_in := ⟨e136, e137, e140⟩
    F_Rack___init__ := fun_mk e143 e144 e145
    kp_Rack___init__ := e145
    B_Rack___init__ := (fun_mk (st := s_Rack___init__) e143 e144 e145).binds fun _ _ _ _ _ _ us hl => match us, hl with | [_, _, _], _ => rfl
    m_Rack___init__ := ⟨e141, e142, e145⟩
    M_Rack := ⟨e146, e141, e142, e147⟩
    F_Rack_row_of := fun_mk e150 e151 e152
    kp_Rack_row_of := e152
    B_Rack_row_of := (fun_mk (st := s_Rack_row_of) e150 e151 e152).binds fun _ _ _ _ _ _ us hl => match us, hl with | [_, _, _], _ => rfl
    m_Rack_row_of := ⟨e148, e149, e152⟩
    F_Rack_put := fun_mk e155 e156 e157
    kp_Rack_put := e157
    B_Rack_put := (fun_mk (st := s_Rack_put) e155 e156 e157).binds fun _ _ _ _ _ _ us hl => match us, hl with | [_, _, _, _], _ => rfl
    m_Rack_put := ⟨e153, e154, e157⟩
    F_Rack_first_row := fun_mk e160 e161 e162
    kp_Rack_first_row := e162
    B_Rack_first_row := (fun_mk (st := s_Rack_first_row) e160 e161 e162).binds fun _ _ _ _ _ _ us hl => match us, hl with | [_], _ => rfl
    m_Rack_first_row := ⟨e158, e159, e162⟩
    F_Rack_first_start := fun_mk e165 e166 e167
    kp_Rack_first_start := e167
    B_Rack_first_start := (fun_mk (st := s_Rack_first_start) e165 e166 e167).binds fun _ _ _ _ _ _ us hl => match us, hl with | [_], _ => rfl
    m_Rack_first_start := ⟨e163, e164, e167⟩
    F_Rack_first_numbers := fun_mk e170 e171 e172
    kp_Rack_first_numbers := e172
    B_Rack_first_numbers := (fun_mk (st := s_Rack_first_numbers) e170 e171 e172).binds fun _ _ _ _ _ _ us hl => match us, hl with | [_], _ => rfl
    m_Rack_first_numbers := ⟨e168, e169, e172⟩
    F_Rack_take_first := fun_mk e175 e176 e177
    kp_Rack_take_first := e177
    B_Rack_take_first := (fun_mk (st := s_Rack_take_first) e175 e176 e177).binds fun _ _ _ _ _ _ us hl => match us, hl with | [_], _ => rfl
    m_Rack_take_first := ⟨e173, e174, e177⟩
    F_Book___init__ := fun_mk e180 e181 e182
    kp_Book___init__ := e182
    B_Book___init__ := (fun_mk (st := s_Book___init__) e180 e181 e182).binds fun _ _ _ _ _ _ us hl => match us, hl with | [_, _, _], _ => rfl
    m_Book___init__ := ⟨e178, e179, e182⟩
    M_Book := ⟨e183, e178, e179, e184⟩
    F_Book_time := fun_mk e187 e188 e189
    kp_Book_time := e189
    B_Book_time := (fun_mk (st := s_Book_time) e187 e188 e189).binds fun _ _ _ _ _ _ us hl => match us, hl with | [_], _ => rfl
    m_Book_time := ⟨e185, e186, e189⟩
    F_Book_waiting := fun_mk e192 e193 e194
    kp_Book_waiting := e194
    B_Book_waiting := (fun_mk (st := s_Book_waiting) e192 e193 e194).binds fun _ _ _ _ _ _ us hl => match us, hl with | [_], _ => rfl
    m_Book_waiting := ⟨e190, e191, e194⟩
    F_Book_due := fun_mk e197 e198 e199
    kp_Book_due := e199
    B_Book_due := (fun_mk (st := s_Book_due) e197 e198 e199).binds fun _ _ _ _ _ _ us hl => match us, hl with | [_, _], _ => rfl
    m_Book_due := ⟨e195, e196, e199⟩
    F_Book_soonest := fun_mk e202 e203 e204
    kp_Book_soonest := e204
    B_Book_soonest := (fun_mk (st := s_Book_soonest) e202 e203 e204).binds fun _ _ _ _ _ _ us hl => match us, hl with | [_], _ => rfl
    m_Book_soonest := ⟨e200, e201, e204⟩
    f_check_tick := PySem.W.mg_of X G e205
    F_check_tick := fun_mk e206 e207 e208
    kp_check_tick := e208
    B_check_tick := (fun_mk (st := s_check_tick) e206 e207 e208).binds fun _ _ _ _ _ _ us hl => match us, hl with | [_, _], _ => rfl
    f_check_step := PySem.W.mg_of X G e209
    F_check_step := fun_mk e210 e211 e212
    kp_check_step := e212
    B_check_step := (fun_mk (st := s_check_step) e210 e211 e212).binds fun _ _ _ _ _ _ us hl => match us, hl with | [_], _ => rfl
    f_check_stretch := PySem.W.mg_of X G e213
    F_check_stretch := fun_mk e214 e215 e216
    kp_check_stretch := e216
    B_check_stretch := (fun_mk (st := s_check_stretch) e214 e215 e216).binds fun _ _ _ _ _ _ us hl => match us, hl with | [_], _ => rfl
    f_start_waiting := PySem.W.mg_of X G e217
    F_start_waiting := fun_mk e218 e219 e220
    kp_start_waiting := e220
    B_start_waiting := (fun_mk (st := s_start_waiting) e218 e219 e220).binds fun _ _ _ _ _ _ us hl => match us, hl with | [_, _, _], _ => rfl
    f_forget := PySem.W.mg_of X G e221
    F_forget := fun_mk e222 e223 e224
    kp_forget := e224
    B_forget := (fun_mk (st := s_forget) e222 e223 e224).binds fun _ _ _ _ _ _ us hl => match us, hl with | [_, _], _ => rfl
    f_set_alarm := PySem.W.mg_of X G e225
    F_set_alarm := fun_mk e226 e227 e228
    kp_set_alarm := e228
    B_set_alarm := (fun_mk (st := s_set_alarm) e226 e227 e228).binds fun _ _ _ _ _ _ us hl => match us, hl with | [_, _, _, _], _ => rfl
    f_ring := PySem.W.mg_of X G e229
    F_ring := fun_mk e230 e231 e232
    kp_ring := e232
    B_ring := (fun_mk (st := s_ring) e230 e231 e232).binds fun _ _ _ _ _ _ us hl => match us, hl with | [_, _], _ => rfl
    f_turn_to := PySem.W.mg_of X G e233
    F_turn_to := fun_mk e234 e235 e236
    kp_turn_to := e236
    B_turn_to := (fun_mk (st := s_turn_to) e234 e235 e236).binds fun _ _ _ _ _ _ us hl => match us, hl with | [_, _], _ => rfl
    f_pass_ticks := PySem.W.mg_of X G e237
    F_pass_ticks := fun_mk e238 e239 e240
    kp_pass_ticks := e240
    B_pass_ticks := (fun_mk (st := s_pass_ticks) e238 e239 e240).binds fun _ _ _ _ _ _ us hl => match us, hl with | [_, _], _ => rfl
    f__law_cell := PySem.W.mg_of X G e241
    F__law_cell := fun_mk e242 e243 e244
    kp__law_cell := e244
    B__law_cell := (fun_mk (st := s__law_cell) e242 e243 e244).binds fun _ _ _ _ _ _ us hl => match us, hl with | [_, _], _ => rfl
    f__law_mix := PySem.W.mg_of X G e245
    F__law_mix := fun_mk e246 e247 e248
    kp__law_mix := e248
    B__law_mix := (fun_mk (st := s__law_mix) e246 e247 e248).binds fun _ _ _ _ _ _ us hl => match us, hl with | [_, _], _ => rfl
    f__law_whole := PySem.W.mg_of X G e249
    F__law_whole := fun_mk e250 e251 e252
    kp__law_whole := e252
    B__law_whole := (fun_mk (st := s__law_whole) e250 e251 e252).binds fun _ _ _ _ _ _ us hl => match us, hl with | [_], _ => rfl
    f__law_made := PySem.W.mg_of X G e253
    F__law_made := fun_mk e254 e255 e256
    kp__law_made := e256
    B__law_made := (fun_mk (st := s__law_made) e254 e255 e256).binds fun _ _ _ _ _ _ us hl => match us, hl with | [_, _], _ => rfl
    f__law_set := PySem.W.mg_of X G e257
    F__law_set := fun_mk e258 e259 e260
    kp__law_set := e260
    B__law_set := (fun_mk (st := s__law_set) e258 e259 e260).binds fun _ _ _ _ _ _ us hl => match us, hl with | [_, _], _ => rfl
    f_law := PySem.W.mg_of X G e261
    F_law := fun_mk e262 e263 e264
    kp_law := e264
    B_law := (fun_mk (st := s_law) e262 e263 e264).binds fun _ _ _ _ _ _ us hl => match us, hl with | [_], _ => rfl
    ti_Book := ⟨e265, e266, e267, e268⟩
    ty_C_Book_str := kit_ty rfl e269
    ty_int_bool := kit_ty rfl e270
    ty_int_str := kit_ty rfl e271
    ty_str_int := kit_ty rfl e272
    ty_str_bool := kit_ty rfl e273
    b_len := PySem.W.mg_none_of X G e274
    b_range := PySem.W.mg_none_of X G e275
    b_sorted := PySem.W.mg_none_of X G e276
    b_min := PySem.W.mg_none_of X G e277
    b_isinstance := PySem.W.mg_none_of X G e278
    b_int := PySem.W.mg_none_of X G e279
    b_bool := PySem.W.mg_none_of X G e280
    b_str := PySem.W.mg_none_of X G e281
    b_tuple := PySem.W.mg_none_of X G e282
    b_list := PySem.W.mg_none_of X G e283
    b_ValueError := PySem.W.mg_none_of X G e284
    b_enumerate := PySem.W.mg_none_of X G e285
    k_FEWEST_SLOTS := PySem.W.mg_of X G e286
    k_MOST_SLOTS := PySem.W.mg_of X G e287
    k_FEWEST_LEVELS := PySem.W.mg_of X G e288
    k_MOST_LEVELS := PySem.W.mg_of X G e289
  }⟩
end Tk
end
section
namespace Tk
open PySem L2 Mir Rk Tb
section
variable {P : Program} {w : World} {K : PySem.W.Frag} {mg : Str → Option Value} {base : Heap} {a : Ad}
abbrev clOf (a : Ad) : Cl := ⟨a.C_Row, a.C_Rack, a.C_Wheels, a.C_Book⟩

/-! ### position -/
def spPos (K : PySem.W.Frag) : Sp := fun vs H Q _ => ∃ (l : Addr) (v : Int) (ns : List Int), vs = [.ref l, .int v] ∧ H l = some (.lst (ns.map V.int)) ∧ ns.Pairwise (· < ·) ∧ ns.length ≤ 1000 ∧ Q (.int (pos ns v)) H
theorem sc_position : FnScope ["rising", "value", "low", "high", "middle"] ["rising", "value"] (defScope s_position) := ⟨rfl, rfl, rfl, by decide +kernel, rfl, by decide +kernel, by decide +kernel⟩
theorem ok_position (T : Txt K mg a) : FnOk P w K mg base (CXe P w) 1 a.f_position a.fd_position ["rising", "value"] (spPos K) := by
  refine T.F_position.okN sc_position (fun vs H Q E h => ?_) (fun cdv A outer s H vs Q E hr h => ?_)
  · obtain ⟨l, v, ns, rfl, _⟩ := h
    rfl
  · obtain ⟨l, v, ns, rfl, hl, hs, hz, k⟩ := h
    refine ⟨_, (pss_cons (ps_set (i := 2) sc_position.nd rfl (Or.inl rfl) pe_int)
      (pss_cons (ps_set (i := 3) sc_position.nd rfl (Or.inl rfl) (pe_callB call_len_seq rfl T.b_len boot_len (pa_cons (pv 0) pa_nil)))
      (pss_cons (ps_while PassesOwn.never (pt_cmpR op_lt (pv 2) (pv 3) (nomark _)) (pss_cons (ps_set (i := 4) sc_position.nd rfl (Or.inl rfl) (pe_op op_fdivB (pe_op op_add (pv 2) (pv 3)) pe_int))
      (pss_one (ps_if (pt_cmpR op_lt (pe_ix ix_list (pv 0) (pv 4) (fun _ _ => rfl)) (pv 1) (nomark _)) (pss_one (ps_set (i := 2) sc_position.nd rfl (Or.inl rfl) (pe_op op_add (pv 4) pe_int))) (pss_one (ps_set (i := 3) sc_position.nd rfl (Or.inl rfl) (pv 4)))))))
      (pss_one (ps_ret (pv 2)))))), ?_⟩
    refine ⟨_, rfl, l, _, rfl, .inl (SqL.of hl), ?_⟩
    refine ⟨fun m σ H1 => ∃ (lo hi : Nat) (x : Option V), σ = [some (.ref l), some (.int v), some (.int lo), some (.int hi), x] ∧ H1 = H ∧ lo ≤ pos ns v ∧ pos ns v ≤ hi ∧ hi ≤ ns.length ∧ m = hi - lo, ⟨_, 0, ns.length, none, ?_, rfl, Nat.zero_le _, pos_le _ _, Nat.le_refl _, rfl⟩, ?_⟩
    · rw [List.length_map]
      rfl
    · rintro m σ H1 ⟨lo, hi, x, rfl, rfl, h1, h2, h3, rfl⟩
      refine ⟨_, rfl, _, rfl, _, _, rfl, rfl, _, rfl, ?_⟩
      refine ite2 (fun c => ?_) (fun c => ?_)
      · have c' : lo < hi := by have := of_decide_eq_true c; omega
        have hm : ((lo : Int) + hi) / 2 = (((lo + hi) / 2 : Nat) : Int) := by omega
        obtain ⟨x0, hx⟩ : ∃ x0, ns[(lo + hi) / 2]? = some x0 := ⟨ns[(lo + hi) / 2]'(by omega), by simp⟩
        have hp := pos_spec (v := v) hs _ _ hx
        refine ⟨fun σ' H' => ∃ (lo' hi' : Nat) (x' : Option V), σ' = [some (.ref l), some (.int v), some (.int lo'), some (.int hi'), x'] ∧ H' = H1 ∧ lo' ≤ pos ns v ∧ pos ns v ≤ hi' ∧ hi' ≤ ns.length ∧ hi' - lo' < hi - lo, fun σ' H' ⟨lo', hi', x', e1, e2, e3, e4, e5, e6⟩ => ⟨_, e6, lo', hi', x', e1, e2, e3, e4, e5, rfl⟩, ?_⟩
        refine ⟨_, rfl, _, rfl, _, _, rfl, rfl, _, _, rfl, rfl, ⟨by decide, by decide⟩, ?_⟩
        refine ⟨_, rfl, _, rfl, l, ns.map V.int, _, .int x0, rfl, rfl, SqL.of hl, ?_, ?_⟩
        · show atI (ns.map V.int) (((lo : Int) + hi) / 2) = _
          rw [hm]
          exact atI_nat (by rw [List.getElem?_map, hx]; rfl)
        · refine ⟨_, rfl, _, _, rfl, rfl, _, rfl, ?_⟩
          refine ite2 (fun d => ?_) (fun d => ?_)
          · have d' : x0 < v := of_decide_eq_true d
            refine ⟨_, rfl, _, _, rfl, rfl, (lo + hi) / 2 + 1, hi, some (.int (((lo : Int) + hi) / 2)), ?_, rfl, by have := hp.mp d'; omega, h2, h3, by omega⟩
            show [some (V.ref l), some (V.int v), some (V.int (((lo : Int) + hi) / 2 + 1)), some (V.int hi), _] = _
            rw [hm]
            rfl
          · have d' : ¬ x0 < v := fun z => d (decide_eq_true z)
            refine ⟨_, rfl, lo, (lo + hi) / 2, some (.int (((lo : Int) + hi) / 2)), ?_, rfl, h1, by have := mt hp.mpr d'; omega, by omega, by omega⟩
            show [some (V.ref l), some (V.int v), some (V.int lo), some (V.int (((lo : Int) + hi) / 2)), some (V.int (((lo : Int) + hi) / 2))] = _
            rw [hm]
      · have c' : ¬ lo < hi := fun z => c (decide_eq_true (by omega))
        have e : lo = pos ns v := by omega
        refine ⟨_, rfl, ?_⟩
        rw [e]
        exact k
end
end Tk
end
section
namespace Tk
open PySem L2 Mir Rk Tb
open PyProof.Rows (boot_sorted boot_min boot_enumerate boot_isinstance)
section
variable {P : Program} {w : World} {K : PySem.W.Frag} {mg : Str → Option Value} {base : Heap} {a : Ad}
/-! ### Row -/
/-- what a row's sizes are -/
structure Sm (r : RowS) : Prop where
  sp : r.span < 2 ^ 200
  ri : r.rising.length ≤ 100
  fi : r.filled.length ≤ 100
  ns : ∀ s ns, get r.filled s = some ns → ns.length < 64
def spRowInit (c : Cl) : Sp := fun vs H Q _ => ∃ (p dx : Addr) (sp : Int), vs = [.ref p, .int sp] ∧ H p = some (.ins c.Row dx []) ∧ ∀ (df lr : Addr) (H' : Hp), H df = none → H lr = none → df ≠ lr →
  H' p = some (.ins c.Row dx (rowF sp df lr)) → H' df = some (.dK []) → H' lr = some (.lst []) → (∀ b o, H b = some o → b ≠ p → H' b = some o) → Q .non H'
theorem sc_Row_init : FnScope ["self", "span"] ["self", "span"] (defScope s_Row___init__) := ⟨rfl, rfl, rfl, by decide +kernel, rfl, by decide +kernel, by decide +kernel⟩
theorem ok_Row_init (T : Txt K mg a) : FnOk P w K mg base (CXe P w) 1 a.f_Row___init__ a.fd_Row___init__ ["self", "span"] (spRowInit (clOf a)) := by
  refine T.F_Row___init__.okN sc_Row_init (fun vs H Q E h => ?_) (fun cdv A outer s H vs Q E hr h => ?_)
  · obtain ⟨p, dx, sp, rfl, _⟩ := h
    rfl
  · obtain ⟨p, dx, sp, rfl, hp, k⟩ := h
    refine ⟨_, (pss_cons (ps_fld (pv 0) (pv 1) rfl) (pss_cons (ps_fld (pv 0) pe_dnewK rfl) (pss_one (ps_fld (pv 0) (pe_lst pa_nil) rfl)))), ?_⟩
    refine ⟨_, rfl, _, rfl, p, _, dx, [], rfl, hp, T.cl_Row, T.n_Row_span, (by show 0 < 1000; decide), ?_⟩
    intro df hdf
    have npf : p ≠ df := fun z => by rw [← z, upd_same] at hdf; cases hdf
    have hdf0 : H df = none := by rw [upd_ne npf.symm] at hdf; exact hdf
    refine ⟨_, rfl, p, _, dx, _, rfl, (by rw [upd_ne npf]; exact upd_same), T.cl_Row, T.n_Row_filled, (by show 1 < 1000; decide), ?_⟩
    refine ⟨(by show 0 ≤ sizeLine; decide), fun lr hlr => ?_⟩
    have npl : p ≠ lr := fun z => by rw [← z, upd_same] at hlr; cases hlr
    have nfl : df ≠ lr := fun z => by rw [← z, upd_ne npf.symm, upd_same] at hlr; cases hlr
    have hlr0 : H lr = none := by rw [upd_ne npl.symm, upd_ne nfl.symm, upd_ne npl.symm] at hlr; exact hlr
    refine ⟨_, rfl, p, _, dx, _, rfl, (by rw [upd_ne npl]; exact upd_same), T.cl_Row, T.n_Row_rising, (by show 2 < 1000; decide), ?_⟩
    refine k df lr _ hdf0 hlr0 nfl upd_same ?_ ?_ fun b o e hb => ?_
    · rw [upd_ne npf.symm, upd_ne nfl, upd_ne npf.symm, upd_same]
    · rw [upd_ne npl.symm, upd_same]
    · have n1 : b ≠ lr := ne_of_none e hlr0
      have n2 : b ≠ df := ne_of_none e hdf0
      rw [upd_ne hb, upd_ne n1, upd_ne hb, upd_ne n2, upd_ne hb]
      exact e
def spRowPut (c : Cl) : Sp := fun vs H Q _ => ∃ (A : Adr) (sl : Sl) (H0 : Hp) (B : BkS) (i : Nat) (r : RowS) (g : Int → Option Int) (n t : Int), vs = [.ref (A.ad (.row i)), .int n, .int t] ∧ Bk c A sl H0 H B ∧ B.rows[i]? = some r ∧ RowOK r g ∧ Sm r ∧
  ∀ H' sl', Bk c A sl' H0 H' (setRow B i (rowPut r n (t / r.span))) → Q .non H'
theorem sc_Row_put : FnScope ["self", "number", "tick", "slot"] ["self", "number", "tick"] (defScope s_Row_put) := ⟨rfl, rfl, rfl, by decide +kernel, rfl, by decide +kernel, by decide +kernel⟩
theorem small100 {n : Nat} (h : n ≤ 100) : n < sizeLine := Nat.lt_of_le_of_lt h (by decide)
theorem map_ins (l : List Int) (i : Nat) (v : Int) : (l.map V.int).take i ++ V.int v :: (l.map V.int).drop i = (insAt l i v).map V.int := by
  unfold insAt
  rw [List.map_append, List.map_cons, List.map_take, List.map_drop]
theorem ok_Row_put (T : Txt K mg a) : FnOk P w K mg base (CXe P w) 2 a.f_Row_put a.fd_Row_put ["self", "number", "tick"] (spRowPut (clOf a)) := by
  have G_position : FnOk P w K mg base (CXe P w) 1 a.f_position a.fd_position ["rising", "value"] (spPos K) := ok_position T
  refine T.F_Row_put.okN sc_Row_put (fun vs H Q E h => ?_) (fun cdv A' outer s H vs Q E hr h => ?_)
  · obtain ⟨A, sl, H0, B, i, r, g, n, t, rfl, _⟩ := h
    rfl
  · obtain ⟨A, sl, H0, B, i, r, g, n, t, rfl, b, hi, R, sm, k⟩ := h
    have hu := hu_of hr
    refine ⟨_, (pss_cons (ps_set (i := 3) sc_Row_put.nd rfl (Or.inl rfl) (pe_op op_fdivB (pv 2) (pe_fld (pv 0) rfl)))
      (pss_cons (ps_if (pt_cmp (pc_dnotin hu (pv 3) (pe_fld (pv 0) rfl))) (pss_cons (ps_dput hu (pe_fld (pv 0) rfl) (pv 3) pe_dnewK rfl)
      (pss_one (ps_expr (pe_bm PySem.F.plainAttrs_list PySem.F.slot_list_insert PySem.F.type_list_insert mt_insert (pe_fld (pv 0) rfl) (pa_cons (pe_call G_position (hr.mono (by decide)) rfl T.f_position T.kp_position T.B_position .nil passN (pa_cons (pe_fld (pv 0) rfl) (pa_cons (pv 3) pa_nil))) (pa_cons (pv 3) pa_nil)))))) pss_nil)
      (pss_one (ps_dput hu (pe_dget hu (pe_fld (pv 0) rfl) (pv 3) (fun _ _ => rfl)) (pv 1) pe_bl rfl)))), ?_⟩
    refine ⟨_, rfl, _, rfl, _, _, _, _, _, rfl, b.row hi, T.cl_Row, T.n_Row_span, rfl, _, _, rfl, rfl, ⟨R.sp, sm.sp⟩, ?_⟩
    refine ⟨_, rfl, _, rfl, _, _, _, _, _, rfl, b.row hi, T.cl_Row, T.n_Row_filled, rfl, _, _, rfl, DGet.k (k := Sum.inl (t / r.span)) (b.filled hi), _, rfl, ?_⟩
    rw [fillV_val]
    cases e : get r.filled (t / r.span) with
    | none =>
      refine iteT ?_
      intro d hd
      have bt := b.temp (o := .dK []) hd
      refine ⟨_, rfl, _, _, _, _, _, rfl, bt.row hi, T.cl_Row, T.n_Row_filled, rfl, _, rfl, _, _, rfl, DPut.k (k := Sum.inl (t / r.span)) (bt.filled hi) (by unfold fillV; rw [mapK_length]; exact small100 sm.fi), ?_⟩
      have b1 := b.newSlot hi e hd
      have hi1 : (setRow B i { r with filled := put r.filled (t / r.span) [] }).rows[i]? = some { r with filled := put r.filled (t / r.span) [] } := rows_set hi
      have hR1 := b1.rising hi1
      dsimp only at hR1
      refine ⟨_, rfl, _, _, _, _, _, rfl, b1.row hi1, T.cl_Row, T.n_Row_rising, rfl, .inl ⟨rfl, _, SqL.of hR1⟩, ?_⟩
      refine ⟨_, rfl, _, _, _, _, _, rfl, b1.row hi1, T.cl_Row, T.n_Row_rising, rfl, _, rfl, _, _, r.rising, rfl, hR1, R.srt, (by have := sm.ri; omega), ?_⟩
      refine ⟨_, rfl, _, _, _, _, rfl, rfl, hR1, (by omega), (by rw [List.length_map]; have := pos_le r.rising (t / r.span); omega), (by rw [List.length_map]; exact small100 sm.ri), ?_⟩
      have b2 := b1.wRising hi1 (insAt r.rising (pos r.rising (t / r.span)) (t / r.span))
      rw [setRow_setRow] at b2
      rw [show ((pos r.rising (t / r.span) : Nat) : Int).toNat = pos r.rising (t / r.span) from rfl, map_ins]
      have eS : slotIn r (t / r.span) = ⟨r.span, put r.filled (t / r.span) [], insAt r.rising (pos r.rising (t / r.span)) (t / r.span)⟩ := by unfold slotIn; rw [e]; rfl
      have b2' := b2
      dsimp only at b2'
      rw [← eS] at b2'
      have hi2 : (setRow B i (slotIn r (t / r.span))).rows[i]? = some (slotIn r (t / r.span)) := rows_set hi
      have hg : get (slotIn r (t / r.span)).filled (t / r.span) = some [] := by rw [slotIn_get, if_pos rfl, e]; rfl
      have hlen : (slotIn r (t / r.span)).filled.length ≤ 101 := by
        rw [eS]
        show (put r.filled (t / r.span) []).length ≤ 101
        have : (keys (put r.filled (t / r.span) [])).length = (keys r.filled ++ [t / r.span]).length := by rw [keys_put_new _ e]
        have f1 := sm.fi
        simp [keys] at this
        omega
      refine ⟨_, rfl, _, _, _, _, _, rfl, b2'.row hi2, T.cl_Row, T.n_Row_filled, rfl, _, rfl, _, _, rfl, b2'.getF hi2 hg, _, rfl, _, _, rfl, b2'.putS (n := n) hi2 hg (by decide), ?_⟩
      have b3 := b2'.wSlot hi2 hg (putN [] n)
      rw [setRow_setRow] at b3
      refine k _ (slput sl i (t / r.span) d) ?_
      unfold rowPut
      rw [hg]
      exact b3
    | some ns =>
      refine iteF ?_
      have eS : slotIn r (t / r.span) = r := by unfold slotIn; rw [e]; rfl
      refine ⟨_, rfl, _, _, _, _, _, rfl, b.row hi, T.cl_Row, T.n_Row_filled, rfl, _, rfl, _, _, rfl, b.getF hi e, _, rfl, _, _, rfl, b.putS (n := n) hi e (small100 (by have := sm.ns _ _ e; omega)), ?_⟩
      have b3 := b.wSlot hi e (putN ns n)
      refine k _ sl ?_
      unfold rowPut
      rw [eS, e]
      exact b3
theorem map_erase {α β : Type} (f : α → β) : ∀ (l : List α) (i : Nat), (l.map f).eraseIdx i = (l.eraseIdx i).map f
  | [], _ => rfl
  | _ :: _, 0 => rfl
  | a :: r, i + 1 => by simp [map_erase f r i]
theorem seqIx {k n : Nat} (h : k < n) : seqIndex? (k : Int) n = some k := by
  unfold seqIndex?
  simp
  omega
def spTakeSlot (c : Cl) : Sp := fun vs H Q _ => ∃ (A : Adr) (sl : Sl) (H0 : Hp) (B : BkS) (i : Nat) (r : RowS) (s : Int) (ns : List Int), vs = [.ref (A.ad (.row i)), .int s] ∧ Bk c A sl H0 H B ∧ B.rows[i]? = some r ∧ r.rising.Pairwise (· < ·) ∧ s ∈ r.rising ∧ get r.filled s = some ns ∧ ns.Nodup ∧ Sm r ∧
  ∀ (H' : Hp) (l : Addr) (out : List Int), H0 l = none → Bk c A sl (upd H0 l (.lst (out.map V.int))) H' (setRow B i (slotOut r s)) → out.Pairwise (· < ·) → (∀ x, x ∈ out ↔ x ∈ ns) → Q (.ref l) H'
theorem sc_Row_take_slot : FnScope ["self", "slot"] ["self", "slot"] (defScope s_Row_take_slot) := ⟨rfl, rfl, rfl, by decide +kernel, rfl, by decide +kernel, by decide +kernel⟩
theorem numV_pairs (ns : List Int) : numV ns = (ns.map fun n => (n, V.bl true)).map fun p => (Sum.inl p.1, p.2) := by
  unfold numV
  rw [List.map_map]
  rfl
theorem ok_Row_take_slot (T : Txt K mg a) : FnOk P w K mg base (CXe P w) 2 a.f_Row_take_slot a.fd_Row_take_slot ["self", "slot"] (spTakeSlot (clOf a)) := by
  have G_position : FnOk P w K mg base (CXe P w) 1 a.f_position a.fd_position ["rising", "value"] (spPos K) := ok_position T
  refine T.F_Row_take_slot.okN sc_Row_take_slot (fun vs H Q E h => ?_) (fun cdv A' outer s H vs Q E hr h => ?_)
  · obtain ⟨A, sl, H0, B, i, r, x, ns, rfl, _⟩ := h
    rfl
  · obtain ⟨A, sl, H0, B, i, r, x, ns, rfl, b, hi, hs, hx, hg, hn, sm, k⟩ := h
    have hu := hu_of hr
    refine ⟨_, (pss_cons (ps_expr (pe_bm PySem.F.plainAttrs_list PySem.F.slot_list_pop PySem.F.type_list_pop mt_popAt (pe_fld (pv 0) rfl) (pa_cons (pe_call G_position (hr.mono (by decide)) rfl T.f_position T.kp_position T.B_position .nil passN (pa_cons (pe_fld (pv 0) rfl) (pa_cons (pv 1) pa_nil))) pa_nil)))
      (pss_one (ps_ret (pe_callB (call_sortedD rfl) rfl T.b_sorted boot_sorted (pa_cons (pe_dpop1 (pe_fld (pv 0) rfl) (pv 1) ⟨rfl, rfl, rfl, rfl⟩) pa_nil))))), ?_⟩
    have hR := b.rising hi
    refine ⟨_, rfl, _, _, _, _, _, rfl, b.row hi, T.cl_Row, T.n_Row_rising, rfl, .inl ⟨rfl, _, SqL.of hR⟩, ?_⟩
    refine ⟨_, rfl, _, _, _, _, _, rfl, b.row hi, T.cl_Row, T.n_Row_rising, rfl, _, rfl, _, _, r.rising, rfl, hR, hs, (by have := sm.ri; omega), ?_⟩
    have hp := at_pos hs hx
    have hpl : pos r.rising x < r.rising.length := (List.getElem?_eq_some_iff.mp hp).1
    have hri := sm.ri
    refine ⟨_, _, _, pos r.rising x, .int x, rfl, rfl, hR, (by omega), (by omega), seqIx (by rw [List.length_map]; exact hpl), (by rw [List.getElem?_map, hp]; rfl), ?_⟩
    have b1 := b.wRising hi (r.rising.eraseIdx (pos r.rising x))
    have hi1 : (setRow B i { r with rising := r.rising.eraseIdx (pos r.rising x) }).rows[i]? = some { r with rising := r.rising.eraseIdx (pos r.rising x) } := rows_set hi
    rw [← map_erase] at b1
    have b2 := b1.dropSlot hi1 x
    rw [setRow_setRow] at b2
    have hF1 := b1.filled hi1
    have hS1 := b1.slot hi1 hg
    have hne : sl i x ≠ A.ad (.filled i) := fun z => by
      have := b1.inj (.slot i x) (.filled i) _ _ (cont_slot hi1 hg) (cont_filled hi1) z
      cases this
    refine ⟨_, rfl, _, _, _, _, _, rfl, b1.row hi1, T.cl_Row, T.n_Row_filled, rfl, _, rfl, .inl ⟨_, .inl hF1⟩, _, rfl, _, Sum.inl x, .ref (sl i x), hF1, rfl, (by rw [fillV_val]; show (get r.filled x).map _ = _; rw [hg]; rfl), ?_⟩
    refine ⟨_, ns.map fun n => (n, V.bl true), rfl, (by rw [upd_ne hne, ← numV_pairs]; exact hS1), (by rw [List.length_map]; exact sm.ns _ _ hg), fun out hperm hsort l hl => ?_⟩
    have e2 : (ns.map fun n => (n, V.bl true)).map (·.1) = ns := by rw [List.map_map]; exact List.map_id _
    rw [e2] at hperm
    obtain ⟨h1, h2⟩ := srt_of_perm hperm hsort hn
    exact k _ l out (b2.same.free hl) (b2.out (.inl hl)) h1 h2
end
end Tk
end
section
namespace Tk
open PySem L2 Mir Rk Tb
open PyProof.Rows (boot_sorted boot_min boot_enumerate boot_isinstance)
section
variable {P : Program} {w : World} {K : PySem.W.Frag} {mg : Str → Option Value} {base : Heap} {a : Ad}
def spNumbersIn (c : Cl) : Sp := fun vs H Q _ => ∃ (A : Adr) (sl : Sl) (H0 : Hp) (B : BkS) (i : Nat) (r : RowS) (s : Int), vs = [.ref (A.ad (.row i)), .int s] ∧ Bk c A sl H0 H B ∧ B.rows[i]? = some r ∧ (∀ ns, get r.filled s = some ns → ns.Nodup) ∧ Sm r ∧
  ∀ (H' : Hp) (l : Addr) (out : List Int), H0 l = none → Bk c A sl (upd H0 l (.lst (out.map V.int))) H' B → out.Pairwise (· < ·) → (∀ x, x ∈ out ↔ ∃ ns, get r.filled s = some ns ∧ x ∈ ns) → Q (.ref l) H'
theorem sc_Row_numbers_in : FnScope ["self", "slot"] ["self", "slot"] (defScope s_Row_numbers_in) := ⟨rfl, rfl, rfl, by decide +kernel, rfl, by decide +kernel, by decide +kernel⟩
theorem ok_Row_numbers_in (T : Txt K mg a) : FnOk P w K mg base (CXe P w) 1 a.f_Row_numbers_in a.fd_Row_numbers_in ["self", "slot"] (spNumbersIn (clOf a)) := by
  refine T.F_Row_numbers_in.okN sc_Row_numbers_in (fun vs H Q E h => ?_) (fun cdv A' outer s H vs Q E hr h => ?_)
  · obtain ⟨A, sl, H0, B, i, r, x, rfl, _⟩ := h
    rfl
  · obtain ⟨A, sl, H0, B, i, r, x, rfl, b, hi, hn, sm, k⟩ := h
    have hu := hu_of hr
    refine ⟨_, (pss_one (ps_ret (pe_callB (call_sortedD rfl) rfl T.b_sorted boot_sorted (pa_cons (pe_dget2 hu (pe_fld (pv 0) rfl) (pv 1) pe_dnewK ⟨rfl, rfl, rfl, rfl⟩) pa_nil)))), ?_⟩
    refine ⟨_, rfl, _, _, _, _, _, rfl, b.row hi, T.cl_Row, T.n_Row_filled, rfl, _, rfl, .inl ⟨_, .inl (b.filled hi)⟩, _, rfl, fun d hd => ?_⟩
    have b1 := b.temp (o := .dK []) hd
    refine ⟨_, DGet.k (k := Sum.inl x) (b1.filled hi), ?_⟩
    rw [fillV_val]
    cases e : get r.filled x with
    | none =>
      refine ⟨d, [], rfl, upd_same, (by decide), fun out hperm hsort l hl => ?_⟩
      have e2 : out = [] := by simpa using hperm
      subst e2
      exact k _ l [] (b1.same.free hl) (b1.out (.inl hl)) List.Pairwise.nil fun y => ⟨fun z => by simp at z, fun ⟨ns, z, _⟩ => by rw [e] at z; cases z⟩
    | some ns =>
      refine ⟨_, ns.map fun n => (n, V.bl true), rfl, (by rw [← numV_pairs]; exact b1.slot hi e), (by rw [List.length_map]; exact sm.ns _ _ e), fun out hperm hsort l hl => ?_⟩
      have e2 : (ns.map fun n => (n, V.bl true)).map (·.1) = ns := by rw [List.map_map]; exact List.map_id _
      rw [e2] at hperm
      obtain ⟨h1, h2⟩ := srt_of_perm hperm hsort (hn ns e)
      exact k _ l out (b1.same.free hl) (b1.out (.inl hl)) h1 fun y => by
        rw [h2 y]
        exact ⟨fun z => ⟨ns, e, z⟩, fun ⟨ms, z1, z2⟩ => by rw [e] at z1; cases z1; exact z2⟩

/-! ### Wheels.place -/
def placeFrom (S now due : Int) : Nat → List Int → Option (Int × Int)
  | _, [] => none
  | lvl, sp :: r => if now / (sp * S) = due / (sp * S) then some (lvl, due % (sp * S) / sp) else placeFrom S now due (lvl + 1) r
/-- the spans of the wheels -/
def spansOf (S : Int) (n : Nat) : List Int := (List.range n).map fun i => S ^ i
def spPlace (c : Cl) : Sp := fun vs H Q _ => ∃ (wh tp dx : Addr) (S now due : Int) (sps : List Int), vs = [.ref wh, .int now, .int due] ∧ H wh = some (.ins c.Wheels dx (wheelsF S tp)) ∧ H tp = some (.tup (sps.map V.int)) ∧ 0 < S ∧ S < 2 ^ 64 ∧ (∀ x ∈ sps, 0 < x ∧ x < 2 ^ 100) ∧ sps.length ≤ 100 ∧
  (placeFrom S now due 0 sps = none → ∀ H', Same H H' → Q .non H') ∧ ∀ lvl slt, placeFrom S now due 0 sps = some (lvl, slt) → ∀ H' p, Same H H' → H p = none → H' p = some (.tup [.int lvl, .int slt]) → Q (.ref p) H'
theorem sc_Wheels_place : FnScope ["self", "now", "due", "level", "span", "whole"] ["self", "now", "due"] (defScope s_Wheels_place) := ⟨rfl, rfl, rfl, by decide +kernel, rfl, by decide +kernel, by decide +kernel⟩
theorem placeFrom_drop {S now due : Int} {sps : List Int} {i : Nat} {x : Int} (h : sps[i]? = some x) : placeFrom S now due i (sps.drop i) = if now / (x * S) = due / (x * S) then some ((i : Int), due % (x * S) / x) else placeFrom S now due (i + 1) (sps.drop (i + 1)) := by
  have hi : i < sps.length := (List.getElem?_eq_some_iff.mp h).1
  have e : sps.drop i = x :: sps.drop (i + 1) := by
    rw [List.drop_eq_getElem_cons hi]
    congr 1
    exact (List.getElem?_eq_some_iff.mp h).2
  rw [e]
  rfl
theorem ok_Wheels_place (T : Txt K mg a) : FnOk P w K mg base (CXe P w) 1 a.f_Wheels_place a.fd_Wheels_place ["self", "now", "due"] (spPlace (clOf a)) := by
  refine T.F_Wheels_place.okN sc_Wheels_place (fun vs H Q E h => ?_) (fun cdv A' outer s H vs Q E hr h => ?_)
  · obtain ⟨wh, tp, dx, S, now, due, sps, rfl, _⟩ := h
    rfl
  · obtain ⟨wh, tp, dx, S, now, due, sps, rfl, hw, ht, hS, hS2, hx, hl, k0, k1⟩ := h
    have hu := hu_of hr
    refine ⟨_, (pss_cons (ps_for PassesOwn.never rfl (pi_enumT rfl T.b_enumerate (pa_cons (pe_fld (pv 0) rfl) pa_nil)) (pg_tup rfl (pgs_cons (pg_name (i := 3) sc_Wheels_place.nd rfl (Or.inl rfl)) (pgs_cons (pg_name (i := 4) sc_Wheels_place.nd rfl (Or.inl rfl)) pgs_nil)))
        (pss_cons (ps_set (i := 5) sc_Wheels_place.nd rfl (Or.inl rfl) (pe_op op_mul (pv 4) (pe_fld (pv 0) rfl)))
        (pss_one (ps_if (pt_cmpR op_eq (pe_op op_fdivB (pv 1) (pv 5)) (pe_op op_fdivB (pv 2) (pv 5)) (nomark _)) (pss_one (ps_ret (pe_tup (pa_cons (pv 3) (pa_cons (pe_op op_fdivB (pe_op op_mod (pv 2) (pv 5)) (pv 4)) pa_nil))))) pss_nil))))
      (pss_one (ps_ret pe_non))), ?_⟩
    refine ⟨_, rfl, _, _, _, _, _, rfl, hw, T.cl_Wheels, T.n_Wheels_spans, rfl, _, rfl, ⟨_, SqT.of ht⟩, ?_⟩
    refine for_enumT (K := K) (a := tp) (xs := sps.map V.int) (fun i σ H2 => ∃ (x y z : Option V), σ = [some (.ref wh), some (.int now), some (.int due), x, y, z] ∧ Same H H2 ∧ placeFrom S now due 0 sps = placeFrom S now due i (sps.drop i)) ⟨_, _, _, rfl, Same.refl _, rfl⟩
      (fun i σ H2 _ ⟨_, _, _, _, s2, _⟩ => SqT.of (s2 _ _ ht)) ?_ ?_
    · rintro i v σ H2 p hv ⟨x, y, z, rfl, s2, hp⟩ hfree
      obtain ⟨sp, hsp, rfl⟩ : ∃ sp, sps[i]? = some sp ∧ v = V.int sp := by
        rw [List.getElem?_map] at hv
        cases e : sps[i]? with
        | none => rw [e] at hv; cases hv
        | some sp => rw [e] at hv; exact ⟨sp, rfl, (Option.some.inj hv).symm⟩
      obtain ⟨p1, p2⟩ := hx sp (List.mem_of_getElem? hsp)
      have s3 : Same H (upd H2 p (.tup [.int (i : Int), .int sp])) := s2.trans (Same.upd hfree)
      have m1 : 0 < sp * S := Int.mul_pos p1 hS
      have m2 : sp * S < 2 ^ 200 := by
        have : sp * S ≤ 2 ^ 100 * 2 ^ 64 := Int.mul_le_mul (Int.le_of_lt p2) (Int.le_of_lt hS2) (Int.le_of_lt hS) (by decide)
        have : (2 : Int) ^ 100 * 2 ^ 64 < 2 ^ 200 := by decide
        omega
      have p3 : sp < 2 ^ 200 := Int.lt_trans p2 (by decide)
      refine ⟨p, [.int (i : Int), .int sp], rfl, SqT.of upd_same, rfl, _, _, rfl, _, _, rfl, rfl, ?_⟩
      refine ⟨_, rfl, _, rfl, _, _, _, _, _, rfl, s3 _ _ hw, T.cl_Wheels, T.n_Wheels_slots, rfl, _, _, rfl, rfl, .inr ⟨by omega, hS2⟩, ?_⟩
      refine ⟨_, rfl, _, rfl, _, _, rfl, rfl, ⟨m1, m2⟩, _, rfl, _, rfl, _, _, rfl, rfl, ⟨m1, m2⟩, rfl, _, rfl, ?_⟩
      have key := placeFrom_drop (S := S) (now := now) (due := due) hsp
      rw [← hp] at key
      refine ite2 (fun c => ?_) (fun c => ?_)
      · have c' : now / (sp * S) = due / (sp * S) := by have := of_decide_eq_true c; injection this
        rw [if_pos c'] at key
        refine ⟨_, rfl, _, rfl, _, rfl, _, _, rfl, rfl, m1, _, rfl, _, _, rfl, rfl, ⟨p1, p3⟩, (by show 2 ≤ sizeLine; decide), fun q hq => ?_⟩
        exact k1 _ _ key _ q (s3.trans (Same.upd hq)) (s3.free hq) upd_same
      · have c' : ¬ now / (sp * S) = due / (sp * S) := fun z => c (decide_eq_true (congrArg V.int z))
        rw [if_neg c'] at key
        exact ⟨_, _, _, rfl, s3, key⟩
    · rintro σ H2 ⟨x, y, z, rfl, s2, hp⟩
      refine k0 ?_ H2 s2
      rw [hp, List.length_map, List.drop_length]
      rfl
end
end Tk
end
section
namespace Tb
open PySem L2 Mir Rk
theorem Bk.up {c : Cl} {A : Adr} {sl : Sl} {H0 H H' : Hp} {B : BkS} (b : Bk c A sl H0 H B) (s : Same H H') : Bk c A sl H0 H' B := ⟨b.same.trans s, b.free, fun l o h => s _ _ (b.here l o h), b.inj⟩
end Tb
namespace Tk
open PySem L2 Mir Rk Tb
open PyProof.Rows (boot_sorted boot_min boot_enumerate boot_isinstance)
/-- the wheels' own numbers -/
structure Geo (S : Int) (n : Nat) (B : BkS) : Prop where
  lo : 2 ≤ S
  hi : S ≤ 64
  n1 : 1 ≤ n
  n6 : n ≤ 6
  slots : B.slots = S
  spans : B.spans = spansOf S n
  len : B.rows.length = n + 1
theorem spans_from (S now due : Int) : ∀ (n i : Nat), placeFrom S now due i ((List.range n).map fun j => S ^ (i + j)) =
    if levFrom S now due n i < i + n then some ((levFrom S now due n i : Int), due % S ^ (levFrom S now due n i + 1) / S ^ levFrom S now due n i) else none
  | 0, i => by simp [placeFrom, levFrom]
  | n + 1, i => by
    have e : (List.range (n + 1)).map (fun j => S ^ (i + j)) = S ^ i :: (List.range n).map fun j => S ^ (i + 1 + j) := by
      rw [List.range_succ_eq_map, List.map_cons, List.map_map]
      congr 1
      apply List.map_congr_left
      intro j _
      show S ^ (i + (j + 1)) = _
      congr 1
      omega
    have p : S ^ i * S = S ^ (i + 1) := (Int.pow_succ S i).symm
    rw [e, placeFrom, p, spans_from S now due n (i + 1), levFrom]
    by_cases h : now / S ^ (i + 1) = due / S ^ (i + 1)
    · rw [if_pos h, if_pos h, if_pos (by omega)]
    · rw [if_neg h, if_neg h, show i + 1 + n = i + (n + 1) by omega]
theorem place_spans (S now due : Int) (n : Nat) : placeFrom S now due 0 (spansOf S n) = if lv S n now due < n then some ((lv S n now due : Int), due % S ^ (lv S n now due + 1) / S ^ lv S n now due) else none := by
  have := spans_from S now due n 0
  rw [Nat.zero_add] at this
  rw [show spansOf S n = (List.range n).map fun j => S ^ (0 + j) from by unfold spansOf; congr 1; funext j; rw [Nat.zero_add]]
  exact this
theorem pow_le64 {S : Int} (h1 : 0 ≤ S) (h2 : S ≤ 64) : ∀ i : Nat, 0 ≤ S ^ i ∧ S ^ i ≤ 64 ^ i
  | 0 => by simp
  | i + 1 => by
    obtain ⟨a, b⟩ := pow_le64 h1 h2 i
    rw [Int.pow_succ, Int.pow_succ]
    exact ⟨Int.mul_nonneg a h1, Int.mul_le_mul b h2 h1 (Int.le_trans a b)⟩
theorem pow_64 {i : Nat} (h : i ≤ 7) : (64 : Int) ^ i ≤ 64 ^ 7 := (by decide : ∀ i : Fin 8, (64 : Int) ^ (i : Nat) ≤ 64 ^ 7) ⟨i, by omega⟩
theorem pow_small {S : Int} (h1 : 2 ≤ S) (h2 : S ≤ 64) {i : Nat} (hi : i ≤ 7) : 0 < S ^ i ∧ S ^ i ≤ 64 ^ 7 := by
  refine ⟨Int.pow_pos (by omega), ?_⟩
  exact Int.le_trans (pow_le64 (by omega) h2 i).2 (pow_64 hi)
section
variable {S : Int} {n : Nat} {now : Int} {rows : List RowS} {f : Int → Option Int} {B : BkS}
theorem Geo.pow (G : Geo S n B) {i : Nat} (hi : i ≤ 7) : 0 < S ^ i ∧ S ^ i ≤ 64 ^ 7 := pow_small G.lo G.hi hi
theorem Geo.span (G : Geo S n B) {x : Int} (h : x ∈ B.spans) : 0 < x ∧ x < 2 ^ 100 := by
  rw [G.spans] at h
  obtain ⟨i, hi, rfl⟩ := List.mem_map.mp h
  have hn := G.n6
  have := List.mem_range.mp hi
  obtain ⟨a, b⟩ := G.pow (i := i) (by omega)
  exact ⟨a, Int.lt_of_le_of_lt b (by decide)⟩
theorem RackOK.sm (R : RackOK S n now rows f) (h64 : S ≤ 64) (h6 : n ≤ 6) {i : Nat} {r : RowS} (h : rows[i]? = some r) : Sm r := by
  have hl := (List.getElem?_eq_some_iff.mp h).1
  have := R.len
  obtain ⟨a, b⟩ := pow_small R.hS h64 (i := i) (by omega)
  obtain ⟨c1, c2, c3⟩ := row_small (R.row i r h) (N := 63) fun k t e => R.dom k t (fil_some.mp e).1
  refine ⟨?_, by omega, by omega, fun s ns e => by have := c3 s ns e; omega⟩
  rw [R.span i r h]
  exact Int.lt_of_le_of_lt b (by decide)
end
section
variable {P : Program} {w : World} {K : PySem.W.Frag} {mg : Str → Option Value} {base : Heap} {a : Ad}
def spRowOf (c : Cl) : Sp := fun vs H Q _ => ∃ (A : Adr) (sl : Sl) (H0 : Hp) (B : BkS) (S : Int) (n : Nat) (now t : Int), vs = [.ref (A.ad .rack), .int now, .int t] ∧ Bk c A sl H0 H B ∧ Geo S n B ∧ ∀ H', Same H H' → Q (.ref (A.ad (.row (lv S n now t)))) H'
theorem sc_Rack_row_of : FnScope ["self", "now", "tick", "place"] ["self", "now", "tick"] (defScope s_Rack_row_of) := ⟨rfl, rfl, rfl, by decide +kernel, rfl, by decide +kernel, by decide +kernel⟩
theorem rows_at {c : Cl} {A : Adr} {sl : Sl} {H0 H : Hp} {B : BkS} (b : Bk c A sl H0 H B) {i : Nat} (h : i < B.rows.length) : atI ((List.range B.rows.length).map fun i => V.ref (A.ad (.row i))) (i : Int) = some (V.ref (A.ad (.row i))) := by
  refine atI_nat ?_
  rw [List.getElem?_map, List.getElem?_range h]
  rfl
theorem ok_Rack_row_of (T : Txt K mg a) : FnOk P w K mg base (CXe P w) 2 a.f_Rack_row_of a.fd_Rack_row_of ["self", "now", "tick"] (spRowOf (clOf a)) := by
  have G_Wheels_place : FnOk P w K mg base (CXe P w) 1 a.f_Wheels_place a.fd_Wheels_place ["self", "now", "due"] (spPlace (clOf a)) := ok_Wheels_place T
  refine T.F_Rack_row_of.okN sc_Rack_row_of (fun vs H Q E h => ?_) (fun cdv A' outer s H vs Q E hr h => ?_)
  · obtain ⟨A, sl, H0, B, S, n, now, t, rfl, _⟩ := h
    rfl
  · obtain ⟨A, sl, H0, B, S, n, now, t, rfl, b, G, k⟩ := h
    refine ⟨_, (pss_cons (ps_set (i := 3) sc_Rack_row_of.nd rfl (Or.inl rfl) (pe_meth (pe_fld (pv 0) rfl) T.cl_Wheels T.m_Wheels_place G_Wheels_place (hr.mono (by decide)) T.B_Wheels_place .nil passN (pa_cons (pv 1) (pa_cons (pv 2) pa_nil))))
      (pss_cons (ps_if (pt_cmpR op_isN (pv 3) pe_non (nomark _)) (pss_one (ps_ret (pe_ix ix_list (pe_fld (pv 0) rfl) (pe_op op_sub (pe_callB call_len_seq rfl T.b_len boot_len (pa_cons (pe_fld (pv 0) rfl) pa_nil)) pe_int) (fun _ _ => rfl)))) pss_nil)
      (pss_one (ps_ret (pe_ix ix_list (pe_fld (pv 0) rfl) (pe_ix ix_tup (pv 3) pe_int (fun _ _ => rfl)) (fun _ _ => rfl)))))), ?_⟩
    refine ⟨_, rfl, _, _, _, _, _, rfl, b.rack, T.cl_Rack, T.n_Rack_wheels, rfl, _, _, _, rfl, b.wheels, rfl, _, rfl, _, rfl, ?_⟩
    have hpl := place_spans S now t n
    have hln := G.len
    refine ⟨_, _, _, S, now, t, B.spans, rfl, (by rw [← G.slots]; exact b.wheels), b.spans, (by have := G.lo; omega), (by have := G.hi; omega), fun x hx => G.span hx, (by rw [G.spans]; unfold spansOf; rw [List.length_map, List.length_range]; have := G.n6; omega), fun h H1 s1 => ?_, fun lvl slt h H1 p s1 hp0 hp => ?_⟩
    · rw [G.spans, hpl] at h
      have hlt : ¬ lv S n now t < n := fun z => by rw [if_pos z] at h; cases h
      have heq : lv S n now t = n := by have := lv_le S n now t; omega
      have b1 := b.up s1
      refine ⟨_, rfl, rfl, _, rfl, iteT ?_⟩
      refine ⟨_, rfl, _, _, _, _, _, rfl, b1.rack, T.cl_Rack, T.n_Rack_rows, rfl, _, rfl, _, _, _, _, _, rfl, b1.rack, T.cl_Rack, T.n_Rack_rows, rfl, _, _, rfl, .inl (SqL.of b1.rows), _, _, rfl, rfl, _, _, _, _, rfl, rfl, SqL.of b1.rows, ?_, k H1 s1⟩
      rw [List.length_map, List.length_range, show ((B.rows.length : Int) - 1) = ((lv S n now t : Nat) : Int) by omega]
      exact rows_at b1 (by omega)
    · rw [G.spans, hpl] at h
      have hlt : lv S n now t < n := Nat.lt_of_not_le fun z => by rw [if_neg (by omega)] at h; cases h
      rw [if_pos hlt] at h
      have b1 := b.up s1
      refine ⟨_, rfl, rfl, _, rfl, iteF ?_⟩
      refine ⟨_, rfl, _, _, _, _, _, rfl, b1.rack, T.cl_Rack, T.n_Rack_rows, rfl, _, rfl, _, _, _, .int lvl, rfl, rfl, SqT.of hp, rfl, _, _, _, _, rfl, rfl, SqL.of b1.rows, ?_, k H1 s1⟩
      injection h with h
      injection h with h1 h2
      rw [← h1]
      exact rows_at b1 (by omega)
def spRackPut (c : Cl) : Sp := fun vs H Q _ => ∃ (A : Adr) (sl : Sl) (H0 : Hp) (B : BkS) (S : Int) (n : Nat) (now k t : Int) (f : Int → Option Int), vs = [.ref (A.ad .rack), .int now, .int k, .int t] ∧ Bk c A sl H0 H B ∧ Geo S n B ∧ RackOK S n now B.rows f ∧ f k = none ∧ now < t ∧ 0 ≤ k ∧ k < 63 ∧
  ∀ (H' : Hp) (sl' : Sl) (rows' : List RowS), Bk c A sl' H0 H' { B with rows := rows' } → rows'.length = B.rows.length → RackOK S n now rows' (gput f k (some t)) → Q .non H'
theorem sc_Rack_put : FnScope ["self", "now", "number", "tick"] ["self", "now", "number", "tick"] (defScope s_Rack_put) := ⟨rfl, rfl, rfl, by decide +kernel, rfl, by decide +kernel, by decide +kernel⟩
theorem ok_Rack_put (T : Txt K mg a) : FnOk P w K mg base (CXe P w) 3 a.f_Rack_put a.fd_Rack_put ["self", "now", "number", "tick"] (spRackPut (clOf a)) := by
  have G_Rack_row_of : FnOk P w K mg base (CXe P w) 2 a.f_Rack_row_of a.fd_Rack_row_of ["self", "now", "tick"] (spRowOf (clOf a)) := ok_Rack_row_of T
  have G_Row_put : FnOk P w K mg base (CXe P w) 2 a.f_Row_put a.fd_Row_put ["self", "number", "tick"] (spRowPut (clOf a)) := ok_Row_put T
  refine T.F_Rack_put.okN sc_Rack_put (fun vs H Q E h => ?_) (fun cdv A' outer s H vs Q E hr h => ?_)
  · obtain ⟨A, sl, H0, B, S, n, now, k, t, f, rfl, _⟩ := h
    rfl
  · obtain ⟨A, sl, H0, B, S, n, now, k, t, f, rfl, b, G, R, hk, ht, hd1, hd2, kk⟩ := h
    refine ⟨_, (pss_one (ps_expr (pe_meth (pe_meth (pv 0) T.cl_Rack T.m_Rack_row_of G_Rack_row_of (hr.mono (by decide)) T.B_Rack_row_of .nil passN (pa_cons (pv 1) (pa_cons (pv 3) pa_nil))) T.cl_Row T.m_Row_put G_Row_put (hr.mono (by decide)) T.B_Row_put .nil passN (pa_cons (pv 2) (pa_cons (pv 3) pa_nil))))), ?_⟩
    refine ⟨_, rfl, _, _, _, rfl, b.rack, rfl, _, rfl, _, rfl, A, sl, H0, B, S, n, now, t, rfl, b, G, fun H1 s1 => ?_⟩
    have b1 := b.up s1
    obtain ⟨r, hi⟩ := R.at (lv_le S n now t)
    refine ⟨_, _, _, rfl, b1.row hi, rfl, _, rfl, _, rfl, A, sl, H0, B, _, r, _, k, t, rfl, b1, hi, R.row _ _ hi, RackOK.sm R G.hi G.n6 hi, fun H2 sl2 b2 => ?_⟩
    exact kk H2 sl2 _ b2 (List.length_set ..) (R.put hk ht ⟨hd1, hd2⟩ hi)
end
end Tk
end
section
namespace Tk
open PySem L2 Mir Rk Tb
open PyProof.Rows (boot_sorted boot_min boot_enumerate boot_isinstance)
/-- the tick at which the first slot begins -/
structure IsMin (S : Int) (n : Nat) (now : Int) (f : Int → Option Int) (m : Int) : Prop where
  one : ∃ k t, f k = some t ∧ st S n now t = m
  least : ∀ k t, f k = some t → m ≤ st S n now t
theorem IsMin.uniq {S : Int} {n : Nat} {now : Int} {f : Int → Option Int} {m m' : Int} (h : IsMin S n now f m) (h' : IsMin S n now f m') : m = m' := by
  obtain ⟨k, t, e, z⟩ := h.one
  obtain ⟨k', t', e', z'⟩ := h'.one
  have := h.least k' t' e'
  have := h'.least k t e
  omega
theorem First.isMin {S : Int} {n : Nat} {now : Int} {f : Int → Option Int} {L : Nat} {s : Int} (h : First S n now f L s) : IsMin S n now f (s * S ^ L) := by
  obtain ⟨k, t, e, l, d⟩ := h.one
  exact ⟨⟨k, t, e, by unfold st; rw [l, d]⟩, h.least⟩
section
variable {P : Program} {w : World} {K : PySem.W.Frag} {mg : Str → Option Value} {base : Heap} {a : Ad}
def spFirstRow (c : Cl) : Sp := fun vs H Q _ => ∃ (A : Adr) (sl : Sl) (H0 : Hp) (B : BkS), vs = [.ref (A.ad .rack)] ∧ Bk c A sl H0 H B ∧ ((∀ (i : Nat) r, B.rows[i]? = some r → r.rising = []) → Q .non H) ∧
  ∀ (L : Nat) r x, B.rows[L]? = some r → r.rising[0]? = some x → (∀ (i : Nat) r', i < L → B.rows[i]? = some r' → r'.rising = []) → Q (.ref (A.ad (.row L))) H
theorem sc_Rack_first_row : FnScope ["self", "row"] ["self"] (defScope s_Rack_first_row) := ⟨rfl, rfl, rfl, by decide +kernel, rfl, by decide +kernel, by decide +kernel⟩
theorem ok_Rack_first_row (T : Txt K mg a) : FnOk P w K mg base (CXe P w) 1 a.f_Rack_first_row a.fd_Rack_first_row ["self"] (spFirstRow (clOf a)) := by
  refine T.F_Rack_first_row.okN sc_Rack_first_row (fun vs H Q E h => ?_) (fun cdv A' outer s H vs Q E hr h => ?_)
  · obtain ⟨A, sl, H0, B, rfl, _⟩ := h
    rfl
  · obtain ⟨A, sl, H0, B, rfl, b, k0, k1⟩ := h
    refine ⟨_, (pss_cons (ps_for PassesOwn.never rfl (pi_list (pe_fld (pv 0) rfl)) (pg_name (i := 1) sc_Rack_first_row.nd rfl (Or.inl rfl)) (pss_one (ps_if (pt_cmpR op_gt (pe_callB call_len_seq rfl T.b_len boot_len (pa_cons (pe_fld (pv 1) rfl) pa_nil)) pe_int (nomark _)) (pss_one (ps_ret (pv 1))) pss_nil)))
      (pss_one (ps_ret pe_non))), ?_⟩
    refine ⟨_, rfl, _, _, _, _, _, rfl, b.rack, T.cl_Rack, T.n_Rack_rows, rfl, _, rfl, ⟨_, SqL.of b.rows⟩, ?_⟩
    refine for_list (K := K) (a := A.ad .rows) (xs := (List.range B.rows.length).map fun i => V.ref (A.ad (.row i))) (fun i σ H2 => ∃ x, σ = [some (.ref (A.ad .rack)), x] ∧ H2 = H ∧ ∀ (j : Nat) r, j < i → B.rows[j]? = some r → r.rising = [])
      ⟨_, rfl, rfl, fun j r z => by omega⟩ (fun i σ H2 _ ⟨_, _, e, _⟩ => by rw [e]; exact SqL.of b.rows) ?_ ?_
    · rintro i v σ H2 hv ⟨x, rfl, rfl, hlow⟩
      have hil : i < B.rows.length := by have := (List.getElem?_eq_some_iff.mp hv).1; simpa using this
      have ev : v = V.ref (A.ad (.row i)) := by
        rw [List.getElem?_map, List.getElem?_range hil] at hv
        exact (Option.some.inj hv).symm
      subst ev
      obtain ⟨r, hi⟩ : ∃ r, B.rows[i]? = some r := ⟨B.rows[i], by simp [hil]⟩
      refine ⟨_, rfl, _, _, _, _, _, rfl, b.row hi, T.cl_Row, T.n_Row_rising, rfl, _, _, rfl, .inl (SqL.of (b.rising hi)), _, _, rfl, rfl, _, rfl, ?_⟩
      rw [List.length_map]
      refine ite2 (fun c => ?_) (fun c => ?_)
      · have c' : 0 < r.rising.length := by have := of_decide_eq_true c; omega
        exact ⟨_, rfl, k1 i r r.rising[0] hi (by simp [c']) fun j r' hj e => hlow j r' hj e⟩
      · have c0 : ¬ (0 : Int) < (r.rising.length : Int) := fun z => c (decide_eq_true z)
        have c' : r.rising = [] := List.length_eq_zero_iff.mp (by omega)
        refine ⟨_, rfl, rfl, fun j r' hj e => ?_⟩
        by_cases ej : j = i
        · subst ej
          rw [hi] at e
          cases e
          exact c'
        · exact hlow j r' (by omega) e
    · rintro σ H2 ⟨x, rfl, rfl, hlow⟩
      refine k0 fun i r e => hlow i r ?_ e
      rw [List.length_map, List.length_range]
      exact (List.getElem?_eq_some_iff.mp e).1
def spFirstStart (c : Cl) : Sp := fun vs H Q _ => ∃ (A : Adr) (sl : Sl) (H0 : Hp) (B : BkS) (S : Int) (n : Nat) (now : Int) (f : Int → Option Int), vs = [.ref (A.ad .rack)] ∧ Bk c A sl H0 H B ∧ Geo S n B ∧ RackOK S n now B.rows f ∧ ((∀ k, f k = none) → Q .non H) ∧ ∀ m, IsMin S n now f m → Q (.int m) H
theorem sc_Rack_first_start : FnScope ["self", "row"] ["self"] (defScope s_Rack_first_start) := ⟨rfl, rfl, rfl, by decide +kernel, rfl, by decide +kernel, by decide +kernel⟩
theorem ok_Rack_first_start (T : Txt K mg a) : FnOk P w K mg base (CXe P w) 2 a.f_Rack_first_start a.fd_Rack_first_start ["self"] (spFirstStart (clOf a)) := by
  have G_Rack_first_row : FnOk P w K mg base (CXe P w) 1 a.f_Rack_first_row a.fd_Rack_first_row ["self"] (spFirstRow (clOf a)) := ok_Rack_first_row T
  refine T.F_Rack_first_start.okN sc_Rack_first_start (fun vs H Q E h => ?_) (fun cdv A' outer s H vs Q E hr h => ?_)
  · obtain ⟨A, sl, H0, B, S, n, now, f, rfl, _⟩ := h
    rfl
  · obtain ⟨A, sl, H0, B, S, n, now, f, rfl, b, G, R, k0, k1⟩ := h
    refine ⟨_, (pss_cons (ps_set (i := 1) sc_Rack_first_start.nd rfl (Or.inl rfl) (pe_meth0 (pv 0) T.cl_Rack T.m_Rack_first_row G_Rack_first_row (hr.mono (by decide)) T.B_Rack_first_row .nil passN))
      (pss_cons (ps_if (pt_cmpR op_isN (pv 1) pe_non (nomark _)) (pss_one (ps_ret pe_non)) pss_nil)
      (pss_one (ps_ret (pe_op op_mul (pe_ix ix_list (pe_fld (pv 1) rfl) pe_int (fun _ _ => rfl)) (pe_fld (pv 1) rfl)))))), ?_⟩
    refine ⟨_, rfl, _, _, _, rfl, b.rack, rfl, A, sl, H0, B, rfl, b, fun h => ?_, fun L r x hi hx low => ?_⟩
    · refine ⟨_, rfl, rfl, _, rfl, iteT ?_⟩
      exact k0 (R.none_first h)
    · have hln := (List.getElem?_eq_some_iff.mp hi).1
      have hsp := R.span L r hi
      obtain ⟨p1, p2⟩ := G.pow (i := L) (by have := R.len; have := G.n6; omega)
      refine ⟨_, rfl, rfl, _, rfl, iteF ?_⟩
      refine ⟨_, rfl, _, _, _, _, _, rfl, b.row hi, T.cl_Row, T.n_Row_rising, rfl, _, _, _, .int x, rfl, rfl, SqL.of (b.rising hi), (by rw [show (0 : Int) = ((0 : Nat) : Int) from rfl]; exact atI_nat (by rw [List.getElem?_map, hx]; rfl)), ?_⟩
      refine ⟨_, rfl, _, _, _, _, _, rfl, b.row hi, T.cl_Row, T.n_Row_span, rfl, _, _, rfl, rfl, .inr ⟨by rw [hsp]; omega, by rw [hsp]; exact Int.lt_of_le_of_lt p2 (by decide)⟩, ?_⟩
      rw [hsp]
      exact k1 _ (First.isMin (R.first hi hx low))
def spFirstNumbers (c : Cl) : Sp := fun vs H Q _ => ∃ (A : Adr) (sl : Sl) (H0 : Hp) (B : BkS) (S : Int) (n : Nat) (now : Int) (f : Int → Option Int), vs = [.ref (A.ad .rack)] ∧ Bk c A sl H0 H B ∧ Geo S n B ∧ RackOK S n now B.rows f ∧
  ∀ (H' : Hp) (l : Addr) (out : List Int), H0 l = none → Bk c A sl (upd H0 l (.lst (out.map V.int))) H' B → out.Pairwise (· < ·) → (∀ x, x ∈ out ↔ ∃ t, f x = some t ∧ IsMin S n now f (st S n now t)) → (out = [] → ∀ k, f k = none) → Q (.ref l) H'
theorem sc_Rack_first_numbers : FnScope ["self", "row"] ["self"] (defScope s_Rack_first_numbers) := ⟨rfl, rfl, rfl, by decide +kernel, rfl, by decide +kernel, by decide +kernel⟩
/-- which numbers lie in the first slot -/
theorem first_has {S : Int} {n : Nat} {now : Int} {rows : List RowS} {f : Int → Option Int} (R : RackOK S n now rows f) {L : Nat} {r : RowS} {s : Int} (hi : rows[L]? = some r) (F : First S n now f L s) (x : Int) :
    (∃ ns, get r.filled s = some ns ∧ x ∈ ns) ↔ ∃ t, f x = some t ∧ st S n now t = s * S ^ L := by
  rw [(R.row L r hi).has x s, R.span L r hi]
  constructor
  · rintro ⟨t, h1, h2⟩
    obtain ⟨a, b⟩ := fil_some.mp h1
    exact ⟨t, a, (F.just x t a).mpr ⟨b, h2⟩⟩
  · rintro ⟨t, h1, h2⟩
    obtain ⟨a, b⟩ := (F.just x t h1).mp h2
    exact ⟨t, fil_some.mpr ⟨h1, a⟩, b⟩
theorem ok_Rack_first_numbers (T : Txt K mg a) : FnOk P w K mg base (CXe P w) 2 a.f_Rack_first_numbers a.fd_Rack_first_numbers ["self"] (spFirstNumbers (clOf a)) := by
  have G_Rack_first_row : FnOk P w K mg base (CXe P w) 1 a.f_Rack_first_row a.fd_Rack_first_row ["self"] (spFirstRow (clOf a)) := ok_Rack_first_row T
  have G_Row_numbers_in : FnOk P w K mg base (CXe P w) 1 a.f_Row_numbers_in a.fd_Row_numbers_in ["self", "slot"] (spNumbersIn (clOf a)) := ok_Row_numbers_in T
  refine T.F_Rack_first_numbers.okN sc_Rack_first_numbers (fun vs H Q E h => ?_) (fun cdv A' outer s H vs Q E hr h => ?_)
  · obtain ⟨A, sl, H0, B, S, n, now, f, rfl, _⟩ := h
    rfl
  · obtain ⟨A, sl, H0, B, S, n, now, f, rfl, b, G, R, k⟩ := h
    refine ⟨_, (pss_cons (ps_set (i := 1) sc_Rack_first_numbers.nd rfl (Or.inl rfl) (pe_meth0 (pv 0) T.cl_Rack T.m_Rack_first_row G_Rack_first_row (hr.mono (by decide)) T.B_Rack_first_row .nil passN))
      (pss_cons (ps_if (pt_cmpR op_isN (pv 1) pe_non (nomark _)) (pss_one (ps_ret (pe_lst pa_nil))) pss_nil)
      (pss_one (ps_ret (pe_meth (pv 1) T.cl_Row T.m_Row_numbers_in G_Row_numbers_in (hr.mono (by decide)) T.B_Row_numbers_in .nil passN (pa_cons (pe_ix ix_list (pe_fld (pv 1) rfl) pe_int (fun _ _ => rfl)) pa_nil)))))), ?_⟩
    refine ⟨_, rfl, _, _, _, rfl, b.rack, rfl, A, sl, H0, B, rfl, b, fun h => ?_, fun L r x hi hx low => ?_⟩
    · refine ⟨_, rfl, rfl, _, rfl, iteT ?_⟩
      refine ⟨(by decide), fun l hl => ?_⟩
      have no := R.none_first h
      exact k _ l [] (b.same.free hl) (b.out (.inl hl)) List.Pairwise.nil (fun y => ⟨fun z => by simp at z, fun ⟨t, z, _⟩ => by rw [no y] at z; cases z⟩) fun _ => no
    · have F := R.first hi hx low
      refine ⟨_, rfl, rfl, _, rfl, iteF ?_⟩
      refine ⟨_, rfl, _, _, _, rfl, b.row hi, rfl, _, rfl, _, _, _, _, _, rfl, b.row hi, T.cl_Row, T.n_Row_rising, rfl, _, _, _, .int x, rfl, rfl, SqL.of (b.rising hi), (by rw [show (0 : Int) = ((0 : Nat) : Int) from rfl]; exact atI_nat (by rw [List.getElem?_map, hx]; rfl)), ?_⟩
      refine ⟨A, sl, H0, B, L, r, x, rfl, b, hi, fun ns e => (R.row L r hi).nd _ _ e, RackOK.sm R G.hi G.n6 hi, fun H1 l out hl b1 hs hm => ?_⟩
      have hm2 : ∀ y, y ∈ out ↔ ∃ t, f y = some t ∧ st S n now t = x * S ^ L := fun y => by rw [hm y, first_has R hi F y]
      refine k H1 l out hl b1 hs (fun y => ?_) fun e => by
        obtain ⟨k1, t1, h1, h2, h3⟩ := F.one
        have := (hm2 k1).mpr ⟨t1, h1, (F.just k1 t1 h1).mpr ⟨h2, h3⟩⟩
        rw [e] at this
        cases this
      rw [hm2 y]
      constructor
      · rintro ⟨t, h1, h2⟩
        exact ⟨t, h1, by rw [h2]; exact First.isMin F⟩
      · rintro ⟨t, h1, h2⟩
        exact ⟨t, h1, h2.uniq (First.isMin F)⟩
def spTakeFirst (c : Cl) : Sp := fun vs H Q _ => ∃ (A : Adr) (sl : Sl) (H0 : Hp) (B : BkS) (S : Int) (n : Nat) (now : Int) (f : Int → Option Int) (m : Int), vs = [.ref (A.ad .rack)] ∧ Bk c A sl H0 H B ∧ Geo S n B ∧ RackOK S n now B.rows f ∧ IsMin S n now f m ∧
  ∀ (H' : Hp) (l : Addr) (out : List Int) (rows' : List RowS), H0 l = none → Bk c A sl (upd H0 l (.lst (out.map V.int))) H' { B with rows := rows' } → rows'.length = B.rows.length → RackOK S n now rows' (fun k => (f k).filter fun t => !decide (st S n now t = m)) →
    out.Pairwise (· < ·) → (∀ x, x ∈ out ↔ ∃ t, f x = some t ∧ st S n now t = m) → Q (.ref l) H'
theorem sc_Rack_take_first : FnScope ["self", "row"] ["self"] (defScope s_Rack_take_first) := ⟨rfl, rfl, rfl, by decide +kernel, rfl, by decide +kernel, by decide +kernel⟩
theorem ok_Rack_take_first (T : Txt K mg a) : FnOk P w K mg base (CXe P w) 3 a.f_Rack_take_first a.fd_Rack_take_first ["self"] (spTakeFirst (clOf a)) := by
  have G_Rack_first_row : FnOk P w K mg base (CXe P w) 1 a.f_Rack_first_row a.fd_Rack_first_row ["self"] (spFirstRow (clOf a)) := ok_Rack_first_row T
  have G_Row_take_slot : FnOk P w K mg base (CXe P w) 2 a.f_Row_take_slot a.fd_Row_take_slot ["self", "slot"] (spTakeSlot (clOf a)) := ok_Row_take_slot T
  refine T.F_Rack_take_first.okN sc_Rack_take_first (fun vs H Q E h => ?_) (fun cdv A' outer s H vs Q E hr h => ?_)
  · obtain ⟨A, sl, H0, B, S, n, now, f, m, rfl, _⟩ := h
    rfl
  · obtain ⟨A, sl, H0, B, S, n, now, f, m, rfl, b, G, R, M, k⟩ := h
    refine ⟨_, (pss_cons (ps_set (i := 1) sc_Rack_take_first.nd rfl (Or.inl rfl) (pe_meth0 (pv 0) T.cl_Rack T.m_Rack_first_row G_Rack_first_row (hr.mono (by decide)) T.B_Rack_first_row .nil passN))
      (pss_one (ps_ret (pe_meth (pv 1) T.cl_Row T.m_Row_take_slot G_Row_take_slot (hr.mono (by decide)) T.B_Row_take_slot .nil passN (pa_cons (pe_ix ix_list (pe_fld (pv 1) rfl) pe_int (fun _ _ => rfl)) pa_nil))))), ?_⟩
    refine ⟨_, rfl, _, _, _, rfl, b.rack, rfl, A, sl, H0, B, rfl, b, fun h => ?_, fun L r x hi hx low => ?_⟩
    · have no := R.none_first h
      obtain ⟨k', t', e, _⟩ := M.one
      rw [no k'] at e
      cases e
    · have F := R.first hi hx low
      have em : m = x * S ^ L := M.uniq (First.isMin F)
      have RR := R.row L r hi
      have hxm : x ∈ r.rising := List.mem_of_getElem? hx
      obtain ⟨ns, hns⟩ := Option.isSome_iff_exists.mp ((RR.mem x).mp hxm)
      refine ⟨_, rfl, _, _, _, rfl, b.row hi, rfl, _, rfl, _, _, _, _, _, rfl, b.row hi, T.cl_Row, T.n_Row_rising, rfl, _, _, _, .int x, rfl, rfl, SqL.of (b.rising hi), (by rw [show (0 : Int) = ((0 : Nat) : Int) from rfl]; exact atI_nat (by rw [List.getElem?_map, hx]; rfl)), ?_⟩
      refine ⟨A, sl, H0, B, L, r, x, ns, rfl, b, hi, RR.srt, hxm, hns, RR.nd _ _ hns, RackOK.sm R G.hi G.n6 hi, fun H1 l out hl b1 hs hm => ?_⟩
      refine k H1 l out _ hl b1 (List.length_set ..) ((R.out hi hxm).congr fun y => ?_) hs fun y => ?_
      · cases e : f y with
        | none => rfl
        | some t =>
          have := F.just y t e
          rw [← em] at this
          simp only [Option.filter, this]
      · rw [hm y, em]
        refine Iff.trans ⟨fun z => ⟨ns, hns, z⟩, fun ⟨ms, z1, z2⟩ => ?_⟩ (first_has R hi F y)
        rw [hns] at z1
        cases z1
        exact z2
end
end Tk
end
section
namespace Tb
open PySem L2 Mir Rk
section
variable {c : Cl} {A : Adr} {sl : Sl} {H0 H : Hp} {B : BkS}
theorem Bk.putT (b : Bk c A sl H0 H B) (k t : Int) (h : B.ticks.length ≤ 1000) : DPut H (A.ad .ticks) (.int k) (.int t) (upd H (A.ad .ticks) (.dK (mapK (fun _ x => V.int x) (put B.ticks k t)))) := by
  have := DPut.k (k := Sum.inl k) (v := .int t) b.ticks (by rw [mapK_length]; exact small1000 h)
  rw [putK_mapK (fun _ x => V.int x) B.ticks k t] at this
  exact this
theorem Bk.putN (b : Bk c A sl H0 H B) (k : Int) (x : Str) (h : B.names.length ≤ 1000) : DPut H (A.ad .names) (.int k) (.str x) (upd H (A.ad .names) (.dK (mapK (fun _ x => V.str x) (put B.names k x)))) := by
  have := DPut.k (k := Sum.inl k) (v := .str x) b.names (by rw [mapK_length]; exact small1000 h)
  rw [putK_mapK (fun _ x => V.str x) B.names k x] at this
  exact this
theorem Bk.putSt (b : Bk c A sl H0 H B) (k : Int) (x : Option Int) (h : B.steps.length ≤ 1000) : DPut H (A.ad .steps) (.int k) (stepV x) (upd H (A.ad .steps) (.dK (mapK (fun _ x => stepV x) (put B.steps k x)))) := by
  have := DPut.k (k := Sum.inl k) (v := stepV x) b.steps (by rw [mapK_length]; exact small1000 h)
  rw [putK_mapK (fun _ x => stepV x) B.steps k x] at this
  exact this
theorem Bk.getT (b : Bk c A sl H0 H B) (k : Int) : DGet H (A.ad .ticks) (.int k) ((get B.ticks k).map V.int) := by
  have := DGet.k (k := Sum.inl k) b.ticks
  rw [valV_mapK] at this
  exact this
theorem Bk.getN (b : Bk c A sl H0 H B) (k : Int) : DGet H (A.ad .names) (.int k) ((get B.names k).map V.str) := by
  have := DGet.k (k := Sum.inl k) b.names
  rw [valV_mapK] at this
  exact this
theorem Bk.getSt (b : Bk c A sl H0 H B) (k : Int) : DGet H (A.ad .steps) (.int k) ((get B.steps k).map stepV) := by
  have := DGet.k (k := Sum.inl k) b.steps
  rw [valV_mapK] at this
  exact this
theorem Bk.popT (b : Bk c A sl H0 H B) (k : Int) : Bk c A sl H0 (upd H (A.ad .ticks) (.dK (dropK (mapK (fun _ x => V.int x) B.ticks) (Sum.inl k)))) { B with ticks := drop B.ticks k } := by rw [dropK_mapK]; exact b.wTicks _
theorem Bk.popN (b : Bk c A sl H0 H B) (k : Int) : Bk c A sl H0 (upd H (A.ad .names) (.dK (dropK (mapK (fun _ x => V.str x) B.names) (Sum.inl k)))) { B with names := drop B.names k } := by rw [dropK_mapK]; exact b.wNames _
theorem Bk.popS (b : Bk c A sl H0 H B) (k : Int) : Bk c A sl H0 (upd H (A.ad .steps) (.dK (dropK (mapK (fun _ x => stepV x) B.steps) (Sum.inl k)))) { B with steps := drop B.steps k } := by rw [dropK_mapK]; exact b.wSteps _
end
end Tb
namespace Tk
open PySem L2 Mir Rk Tb
open PyProof.Rows (boot_sorted boot_min boot_enumerate boot_isinstance)
section
variable {P : Program} {w : World} {K : PySem.W.Frag} {mg : Str → Option Value} {base : Heap} {a : Ad}
theorem Geo.up {S : Int} {n : Nat} {B B' : BkS} (G : Geo S n B) (h1 : B'.slots = B.slots) (h2 : B'.spans = B.spans) (h3 : B'.rows.length = B.rows.length) : Geo S n B' := ⟨G.lo, G.hi, G.n1, G.n6, h1.trans G.slots, h2.trans G.spans, h3.trans G.len⟩
def spStart (c : Cl) : Sp := fun vs H Q _ => ∃ (A : Adr) (sl : Sl) (H0 : Hp) (B : BkS) (S : Int) (n : Nat) (k t : Int) (f : Int → Option Int), vs = [.ref (A.ad .book), .int k, .int t] ∧ Bk c A sl H0 H B ∧ Geo S n B ∧ RackOK S n B.now B.rows f ∧ f k = none ∧ B.now < t ∧ 0 ≤ k ∧ k < 63 ∧ B.ticks.length ≤ 1000 ∧
  ∀ (H' : Hp) (sl' : Sl) (rows' : List RowS), Bk c A sl' H0 H' { B with rows := rows', ticks := put B.ticks k t } → rows'.length = B.rows.length → RackOK S n B.now rows' (gput f k (some t)) → Q .non H'
theorem sc_start_waiting : FnScope ["book", "number", "tick"] ["book", "number", "tick"] (defScope s_start_waiting) := ⟨rfl, rfl, rfl, by decide +kernel, rfl, by decide +kernel, by decide +kernel⟩
theorem ok_start_waiting (T : Txt K mg a) : FnOk P w K mg base (CXe P w) 4 a.f_start_waiting a.fd_start_waiting ["book", "number", "tick"] (spStart (clOf a)) := by
  have G_Rack_put : FnOk P w K mg base (CXe P w) 3 a.f_Rack_put a.fd_Rack_put ["self", "now", "number", "tick"] (spRackPut (clOf a)) := ok_Rack_put T
  refine T.F_start_waiting.okN sc_start_waiting (fun vs H Q E h => ?_) (fun cdv A' outer s H vs Q E hr h => ?_)
  · obtain ⟨A, sl, H0, B, S, n, k, t, f, rfl, _⟩ := h
    rfl
  · obtain ⟨A, sl, H0, B, S, n, k, t, f, rfl, b, G, R, hk, ht, hd1, hd2, hl, kk⟩ := h
    have hu := hu_of hr
    refine ⟨_, (pss_cons (ps_dput hu (pe_fld (pv 0) rfl) (pv 1) (pv 2) rfl)
      (pss_one (ps_expr (pe_meth (pe_fld (pv 0) rfl) T.cl_Rack T.m_Rack_put G_Rack_put (hr.mono (by decide)) T.B_Rack_put .nil passN (pa_cons (pe_fld (pv 0) rfl) (pa_cons (pv 1) (pa_cons (pv 2) pa_nil))))))), ?_⟩
    refine ⟨_, rfl, _, rfl, _, _, _, _, _, rfl, b.book, T.cl_Book, T.n_Book_ticks, rfl, _, rfl, _, _, rfl, b.putT k t hl, ?_⟩
    have b1 := b.wTicks (put B.ticks k t)
    refine ⟨_, rfl, _, _, _, _, _, rfl, b1.book, T.cl_Book, T.n_Book_rack, rfl, _, _, _, rfl, b1.rack, rfl, _, rfl, _, _, _, _, _, rfl, b1.book, T.cl_Book, T.n_Book_now, rfl, _, rfl, _, rfl, ?_⟩
    exact ⟨A, sl, H0, _, S, n, B.now, k, t, f, rfl, b1, G.up rfl rfl rfl, R, hk, ht, hd1, hd2, fun H' sl' rows' b2 e R' => kk H' sl' rows' b2 e R'⟩
def spForget (c : Cl) : Sp := fun vs H Q _ => ∃ (A : Adr) (sl : Sl) (H0 : Hp) (B : BkS) (k : Int) (nm : Str) (sp : Option Int), vs = [.ref (A.ad .book), .int k] ∧ Bk c A sl H0 H B ∧ get B.names k = some nm ∧ get B.steps k = some sp ∧ ∀ H', Bk c A sl H0 H' { B with steps := drop B.steps k, names := drop B.names k } → Q (.str nm) H'
theorem sc_forget : FnScope ["book", "number"] ["book", "number"] (defScope s_forget) := ⟨rfl, rfl, rfl, by decide +kernel, rfl, by decide +kernel, by decide +kernel⟩
theorem ok_forget (T : Txt K mg a) : FnOk P w K mg base (CXe P w) 1 a.f_forget a.fd_forget ["book", "number"] (spForget (clOf a)) := by
  refine T.F_forget.okN sc_forget (fun vs H Q E h => ?_) (fun cdv A' outer s H vs Q E hr h => ?_)
  · obtain ⟨A, sl, H0, B, k, nm, sp, rfl, _⟩ := h
    rfl
  · obtain ⟨A, sl, H0, B, k, nm, sp, rfl, b, hn, hs, kk⟩ := h
    refine ⟨_, (pss_cons (ps_expr (pe_dpop1 (pe_fld (pv 0) rfl) (pv 1) ⟨rfl, rfl, rfl, rfl⟩)) (pss_one (ps_ret (pe_dpop1 (pe_fld (pv 0) rfl) (pv 1) ⟨rfl, rfl, rfl, rfl⟩)))), ?_⟩
    refine ⟨_, rfl, _, _, _, _, _, rfl, b.book, T.cl_Book, T.n_Book_steps, rfl, _, rfl, .inl ⟨_, .inl b.steps⟩, _, rfl, _, Sum.inl k, stepV sp, b.steps, rfl, (by rw [valV_mapK, hs]; rfl), ?_⟩
    have b1 := b.popS k
    refine ⟨_, rfl, _, _, _, _, _, rfl, b1.book, T.cl_Book, T.n_Book_names, rfl, _, rfl, .inl ⟨_, .inl b1.names⟩, _, rfl, _, Sum.inl k, .str nm, b1.names, rfl, (by rw [valV_mapK]; show (get B.names k).map _ = _; rw [hn]; rfl), ?_⟩
    exact kk _ (b1.popN k)
/-! ### the checks -/
def Lg (x : Int) : Prop := x.natAbs.log2 < 1920
def spCheckTick (c : Cl) (Past : Addr) : Sp := fun vs H Q E => ∃ (A : Adr) (sl : Sl) (H0 : Hp) (B : BkS) (due : Int), vs = [.ref (A.ad .book), .int due] ∧ Bk c A sl H0 H B ∧ Lg due ∧ (due ≤ B.now → E (.ref Past) none H) ∧ (B.now < due → Q .non H)
theorem sc_check_tick : FnScope ["book", "due"] ["book", "due"] (defScope s_check_tick) := ⟨rfl, rfl, rfl, by decide +kernel, rfl, by decide +kernel, by decide +kernel⟩
theorem ok_check_tick (T : Txt K mg a) : FnOk P w K mg base (CXe P w) 1 a.f_check_tick a.fd_check_tick ["book", "due"] (spCheckTick (clOf a) a.C_Past) := by
  refine T.F_check_tick.okE sc_check_tick (fun vs H Q E h => ?_) (fun cdv A' outer s H vs Q E hr h => ?_)
  · obtain ⟨A, sl, H0, B, due, rfl, _⟩ := h
    rfl
  · obtain ⟨A, sl, H0, B, due, rfl, b, hl, k0, k1⟩ := h
    refine ⟨_, (pss_one (ps_if (pt_cmpR op_le (pv 1) (pe_fld (pv 0) rfl) (nomark _)) (pss_one (ps_raise rz_fn rfl rfl T.c_Past T.x_Past (pa_cons (pe_fstr (pf_str (pf_int (pv 1) (pf_str pf_nil)))) pa_nil))) pss_nil)), ?_⟩
    refine ⟨_, rfl, _, rfl, _, _, _, _, _, rfl, b.book, T.cl_Book, T.n_Book_now, rfl, _, _, rfl, rfl, _, rfl, ?_⟩
    refine ite2 (fun c => ?_) (fun c => ?_)
    · exact ⟨_, rfl, _, rfl, hl, fun y => ⟨by show 1 ≤ sizeLine; decide, k0 (of_decide_eq_true c)⟩⟩
    · exact k1 (by have : ¬ due ≤ B.now := fun z => c (decide_eq_true z)
                   omega)
def spCheckStep (Past : Addr) : Sp := fun vs H Q E => ∃ (sp : Option Int), vs = [stepV sp] ∧ (∀ s, sp = some s → Lg s) ∧ (∀ s, sp = some s → s < 1 → E (.ref Past) none H) ∧ ((∀ s, sp = some s → 1 ≤ s) → Q .non H)
theorem sc_check_step : FnScope ["step"] ["step"] (defScope s_check_step) := ⟨rfl, rfl, rfl, by decide +kernel, rfl, by decide +kernel, by decide +kernel⟩
theorem ok_check_step (T : Txt K mg a) : FnOk P w K mg base (CXe P w) 1 a.f_check_step a.fd_check_step ["step"] (spCheckStep a.C_Past) := by
  refine T.F_check_step.okE sc_check_step (fun vs H Q E h => ?_) (fun cdv A' outer s H vs Q E hr h => ?_)
  · obtain ⟨sp, rfl, _⟩ := h
    rfl
  · obtain ⟨sp, rfl, hl, k0, k1⟩ := h
    refine ⟨_, (pss_one (ps_if (pw_and (pt_cmpR op_notN (pv 0) pe_non (nomark _)) (pw_and1 (pt_cmpR op_lt (pv 0) pe_int (nomark _)))).pt (pss_one (ps_raise rz_fn rfl rfl T.c_Past T.x_Past (pa_cons (pe_fstr (pf_str (pf_int (pv 0) (pf_str pf_nil)))) pa_nil))) pss_nil)), ?_⟩
    cases sp with
    | none =>
      refine ⟨_, rfl, rfl, _, rfl, iteF ?_⟩
      exact iteF (k1 fun s z => by cases z)
    | some x =>
      refine ⟨_, rfl, rfl, _, rfl, iteT ?_⟩
      refine ⟨_, rfl, _, _, rfl, rfl, _, rfl, ?_⟩
      refine ite2 (fun c => ?_) (fun c => ?_)
      · exact ⟨_, rfl, _, rfl, hl x rfl, fun y => ⟨by show 1 ≤ sizeLine; decide, k0 x rfl (of_decide_eq_true c)⟩⟩
      · exact k1 fun s z => by
          cases z
          have : ¬ x < 1 := fun z => c (decide_eq_true z)
          omega
def spCheckStretch (Past : Addr) : Sp := fun vs H Q E => ∃ (t : Int), vs = [.int t] ∧ Lg t ∧ (t < 0 → E (.ref Past) none H) ∧ (0 ≤ t → Q .non H)
theorem sc_check_stretch : FnScope ["ticks"] ["ticks"] (defScope s_check_stretch) := ⟨rfl, rfl, rfl, by decide +kernel, rfl, by decide +kernel, by decide +kernel⟩
theorem ok_check_stretch (T : Txt K mg a) : FnOk P w K mg base (CXe P w) 1 a.f_check_stretch a.fd_check_stretch ["ticks"] (spCheckStretch a.C_Past) := by
  refine T.F_check_stretch.okE sc_check_stretch (fun vs H Q E h => ?_) (fun cdv A' outer s H vs Q E hr h => ?_)
  · obtain ⟨t, rfl, _⟩ := h
    rfl
  · obtain ⟨t, rfl, hl, k0, k1⟩ := h
    refine ⟨_, (pss_one (ps_if (pt_cmpR op_lt (pv 0) pe_int (nomark _)) (pss_one (ps_raise rz_fn rfl rfl T.c_Past T.x_Past (pa_cons (pe_fstr (pf_str (pf_int (pv 0) (pf_str pf_nil)))) pa_nil))) pss_nil)), ?_⟩
    refine ⟨_, rfl, _, _, rfl, rfl, _, rfl, ?_⟩
    refine ite2 (fun c => ?_) (fun c => ?_)
    · exact ⟨_, rfl, _, rfl, hl, fun y => ⟨by show 1 ≤ sizeLine; decide, k0 (of_decide_eq_true c)⟩⟩
    · have : ¬ t < 0 := fun z => c (decide_eq_true z)
      exact k1 (by omega)
end
end Tk
end
section
namespace Tk
open PySem L2 Mir Rk Tb
open PyProof.Rows (boot_sorted boot_min boot_enumerate boot_isinstance)
section
variable {P : Program} {w : World} {K : PySem.W.Frag} {mg : Str → Option Value} {base : Heap} {a : Ad}
def tripV (r : Int × Int × Str) : List V := [.int r.1, .int r.2.1, .str r.2.2]
theorem gput_same {f : Int → Option Int} {k : Int} (h : f k = none) : gput f k none = f := by
  funext m
  unfold gput
  by_cases e : m = k
  · rw [if_pos e, e, h]
  · rw [if_neg e]
def spRing (c : Cl) : Sp := fun vs H Q _ => ∃ (A : Adr) (sl : Sl) (H0 : Hp) (B : BkS) (S : Int) (n : Nat) (k t : Int) (f : Int → Option Int) (nm : Str) (sp : Option Int), vs = [.ref (A.ad .book), .int k] ∧ Bk c A sl H0 H B ∧ Geo S n B ∧ RackOK S n B.now B.rows f ∧ f k = none ∧ 0 ≤ k ∧ k < 63 ∧ B.ticks.length ≤ 1000 ∧
  get B.ticks k = some t ∧ get B.names k = some nm ∧ get B.steps k = some sp ∧ (∀ s, sp = some s → 1 ≤ s) ∧
  ∀ (H' : Hp) (sl' : Sl) (rows' : List RowS) (p : Addr), H0 p = none → Bk c A sl' (upd H0 p (.tup (tripV (B.now, k, nm)))) H' { ringB B k sp with rows := rows' } → rows'.length = B.rows.length → RackOK S n B.now rows' (gput f k (sp.map (B.now + ·))) → Q (.ref p) H'
theorem sc_ring : FnScope ["book", "number", "step"] ["book", "number"] (defScope s_ring) := ⟨rfl, rfl, rfl, by decide +kernel, rfl, by decide +kernel, by decide +kernel⟩
theorem ok_ring (T : Txt K mg a) : FnOk P w K mg base (CXe P w) 5 a.f_ring a.fd_ring ["book", "number"] (spRing (clOf a)) := by
  have G_forget : FnOk P w K mg base (CXe P w) 1 a.f_forget a.fd_forget ["book", "number"] (spForget (clOf a)) := ok_forget T
  have G_start_waiting : FnOk P w K mg base (CXe P w) 4 a.f_start_waiting a.fd_start_waiting ["book", "number", "tick"] (spStart (clOf a)) := ok_start_waiting T
  refine T.F_ring.okN sc_ring (fun vs H Q E h => ?_) (fun cdv A' outer s H vs Q E hr h => ?_)
  · obtain ⟨A, sl, H0, B, S, n, k, t, f, nm, sp, rfl, _⟩ := h
    rfl
  · obtain ⟨A, sl, H0, B, S, n, k, t, f, nm, sp, rfl, b, G, R, hk, hd1, hd2, hl, ht, hn, hs, hp, kk⟩ := h
    have hu := hu_of hr
    refine ⟨_, (pss_cons (ps_set (i := 2) sc_ring.nd rfl (Or.inl rfl) (pe_dget hu (pe_fld (pv 0) rfl) (pv 1) (fun _ _ => rfl)))
      (pss_cons (ps_if (pt_cmpR op_isN (pv 2) pe_non (nomark _)) (pss_cons (ps_expr (pe_dpop1 (pe_fld (pv 0) rfl) (pv 1) ⟨rfl, rfl, rfl, rfl⟩))
      (pss_one (ps_ret (pe_tup (pa_cons (pe_fld (pv 0) rfl) (pa_cons (pv 1) (pa_cons (pe_call G_forget (hr.mono (by decide)) rfl T.f_forget T.kp_forget T.B_forget .nil passN (pa_cons (pv 0) (pa_cons (pv 1) pa_nil))) pa_nil))))))) pss_nil)
      (pss_cons (ps_expr (pe_call G_start_waiting (hr.mono (by decide)) rfl T.f_start_waiting T.kp_start_waiting T.B_start_waiting .nil passN (pa_cons (pv 0) (pa_cons (pv 1) (pa_cons (pe_op op_add (pe_fld (pv 0) rfl) (pv 2)) pa_nil)))))
      (pss_one (ps_ret (pe_tup (pa_cons (pe_fld (pv 0) rfl) (pa_cons (pv 1) (pa_cons (pe_dget hu (pe_fld (pv 0) rfl) (pv 1) (fun _ _ => rfl)) pa_nil))))))))), ?_⟩
    have g0 := b.getSt k
    rw [hs] at g0
    refine ⟨_, rfl, _, _, _, _, _, rfl, b.book, T.cl_Book, T.n_Book_steps, rfl, _, rfl, _, _, rfl, g0, ?_⟩
    cases sp with
    | none =>
      refine ⟨_, rfl, rfl, _, rfl, iteT ?_⟩
      refine ⟨_, rfl, _, _, _, _, _, rfl, b.book, T.cl_Book, T.n_Book_ticks, rfl, _, rfl, .inl ⟨_, .inl b.ticks⟩, _, rfl, _, Sum.inl k, .int t, b.ticks, rfl, (by rw [valV_mapK, ht]; rfl), ?_⟩
      have b1 := b.popT k
      refine ⟨_, rfl, _, _, _, _, _, rfl, b1.book, T.cl_Book, T.n_Book_now, rfl, _, rfl, _, rfl, _, rfl, A, sl, H0, _, k, nm, none, rfl, b1, hn, hs, fun H2 b2 => ?_⟩
      refine ⟨by show 3 ≤ sizeLine; decide, fun p hp => ?_⟩
      exact kk _ sl B.rows p (b2.same.free hp) (b2.out (.inl hp)) rfl (by rw [show (none : Option Int).map (B.now + ·) = none from rfl, gput_same hk]; exact R)
    | some x =>
      refine ⟨_, rfl, rfl, _, rfl, iteF ?_⟩
      refine ⟨_, rfl, _, rfl, _, rfl, _, _, _, _, _, rfl, b.book, T.cl_Book, T.n_Book_now, rfl, _, rfl, _, _, rfl, rfl, ?_⟩
      have hx := hp x rfl
      refine ⟨A, sl, H0, B, S, n, k, B.now + x, f, rfl, b, G, R, hk, by omega, hd1, hd2, hl, fun H2 sl2 rows2 b2 e2 R2 => ?_⟩
      have g1 := b2.getN k
      rw [show get _ k = some nm from hn] at g1
      refine ⟨_, rfl, _, _, _, _, _, rfl, b2.book, T.cl_Book, T.n_Book_now, rfl, _, rfl, _, rfl, _, _, _, _, _, rfl, b2.book, T.cl_Book, T.n_Book_names, rfl, _, rfl, _, _, rfl, g1, ?_⟩
      refine ⟨by show 3 ≤ sizeLine; decide, fun p hp => ?_⟩
      exact kk _ sl2 rows2 p (b2.same.free hp) (b2.out (.inl hp)) e2 R2
end
end Tk
end
section
namespace Tb
open PySem L2 Mir Rk
theorem Out.sameT {B : BkS} (o : Out B) {t : Dct Int} (nd : (keys t).Nodup) (h : ∀ m, get t m = get B.ticks m) : Out { B with ticks := t } where
  ndT := nd
  ndK := o.ndK
  ndN := o.ndN
  ndS := o.ndS
  nx := o.nx
  dom := o.dom
  nm := fun k => by show (get B.names k).isSome = ((get t k).isSome || (get B.kept k).isSome); rw [h]; exact o.nm k
  st := o.st
  pos := o.pos
  dis := fun k e => o.dis k (by rw [← h]; exact e)
  kp := o.kp
theorem Out.rows {B : BkS} (o : Out B) (r : List RowS) : Out { B with rows := r } := ⟨o.ndT, o.ndK, o.ndN, o.ndS, o.nx, o.dom, o.nm, o.st, o.pos, o.dis, o.kp⟩
theorem Out.nowS {B : BkS} (o : Out B) (r : Int) : Out { B with now := r } := ⟨o.ndT, o.ndK, o.ndN, o.ndS, o.nx, o.dom, o.nm, o.st, o.pos, o.dis, o.kp⟩
end Tb
namespace Tk
open PySem L2 Mir Rk Tb
open PyProof.Rows (boot_sorted boot_min boot_enumerate boot_isinstance)
/-- all that holds of a book between two deeds -/
structure BOK (S : Int) (n : Nat) (B : BkS) : Prop where
  geo : Geo S n B
  rack : RackOK S n B.now B.rows (get B.ticks)
  out : Out B
  nn : 0 ≤ B.now
/-- a list of triples -/
def RingsAt (H : Hp) (l : Addr) (rs : List (Int × Int × Str)) : Prop := ∃ qs : List (Addr × Int × Int × Str), qs.map (·.2) = rs ∧ H l = some (.lst (qs.map fun q => V.ref q.1)) ∧ ∀ q ∈ qs, H q.1 = some (.tup (tripV q.2))
theorem RingsAt.same {H H' : Hp} {l : Addr} {rs : List (Int × Int × Str)} (r : RingsAt H l rs) (s : Same H H') : RingsAt H' l rs := by
  obtain ⟨qs, e, h, t⟩ := r
  exact ⟨qs, e, s _ _ h, fun q hq => s _ _ (t q hq)⟩
theorem RingsAt.snoc {H : Hp} {l p : Addr} {r : Int × Int × Str} {qs : List (Addr × Int × Int × Str)} (h : H l = some (.lst (qs.map fun q => V.ref q.1))) (t : ∀ q ∈ qs, H q.1 = some (.tup (tripV q.2))) (hp : H p = none) :
    RingsAt (upd (upd H p (.tup (tripV r))) l (.lst ((qs.map fun q => V.ref q.1) ++ [.ref p]))) l (qs.map (·.2) ++ [r]) := by
  have npl : p ≠ l := fun z => by rw [z, h] at hp; cases hp
  refine ⟨qs ++ [(p, r)], by simp, by rw [upd_same]; simp, fun q hq => ?_⟩
  rcases List.mem_append.mp hq with hq | hq
  · have tq := t q hq
    have n1 : q.1 ≠ l := fun z => by rw [z, h] at tq; cases tq
    have n2 : q.1 ≠ p := fun z => by rw [z, hp] at tq; cases tq
    rw [upd_ne n1, upd_ne n2]
    exact tq
  · have e : q = (p, r) := by simpa using hq
    subst e
    rw [upd_ne npl, upd_same]
section
variable {P : Program} {w : World} {K : PySem.W.Frag} {mg : Str → Option Value} {base : Heap} {a : Ad}
def spTurnTo (c : Cl) : Sp := fun vs H Q _ => ∃ (A : Adr) (sl : Sl) (H0 : Hp) (B : BkS) (S : Int) (n : Nat) (start goal : Int), vs = [.ref (A.ad .book), .int start] ∧ Bk c A sl H0 H B ∧ BOK S n B ∧ IsMin S n B.now (get B.ticks) start ∧ start ≤ goal ∧
  ∀ (H' : Hp) (sl' : Sl) (H1 : Hp) (B' : BkS) (lr : Addr) (rs : List (Int × Int × Str)), Same H0 H1 → H0 lr = none → RingsAt H1 lr rs → Bk c A sl' H1 H' B' → BOK S n B' → B'.now = start → B'.next = B.next → rest B' = rest B → Steps goal (wait B) rs (wait B') → rs.length ≤ 63 → Q (.ref lr) H'
theorem sc_turn_to : FnScope ["book", "start", "rung", "number"] ["book", "start"] (defScope s_turn_to) := ⟨rfl, rfl, rfl, by decide +kernel, rfl, by decide +kernel, by decide +kernel⟩
/-- between two numbers of a slot -/
structure Mid (c : Cl) (A : Adr) (sl : Sl) (H0 : Hp) (B : BkS) (S : Int) (n : Nat) (start goal : Int) (out : List Int) (l lr : Addr) (i : Nat) (H : Hp) (H1 : Hp) (Bi : BkS) (rs : List (Int × Int × Str)) : Prop where
  bk : Bk c A sl H1 H Bi
  same : Same H0 H1
  lst : H1 l = some (.lst (out.map V.int))
  rng : RingsAt H1 lr rs
  geo : Geo S n Bi
  ok : Out Bi
  now : Bi.now = start
  nx : Bi.next = B.next
  rst : rest Bi = rest B
  steps : Steps goal (wait B) rs (wait Bi)
  len : rs.length ≤ i
  rack : RackOK S n start Bi.rows (fun k => if k ∈ out.drop i then none else get Bi.ticks k)
  pend : ∀ k, k ∈ out.drop i → ∃ t, get Bi.ticks k = some t ∧ start ≤ t
theorem drop_cons {out : List Int} {i : Nat} {k : Int} (h : out[i]? = some k) : out.drop i = k :: out.drop (i + 1) := by
  have hi : i < out.length := (List.getElem?_eq_some_iff.mp h).1
  rw [List.drop_eq_getElem_cons hi]
  congr 1
  exact (List.getElem?_eq_some_iff.mp h).2
theorem ringB_get {B : BkS} {k y : Int} {sp : Option Int} (h : y ≠ k) : get (ringB B k sp).ticks y = get B.ticks y := by
  cases sp with
  | none => show get (drop B.ticks k) y = _; rw [get_drop, if_neg h]
  | some x => show get (put B.ticks k (B.now + x)) y = _; rw [get_put, if_neg h]
theorem ok_turn_to (T : Txt K mg a) : FnOk P w K mg base (CXe P w) 6 a.f_turn_to a.fd_turn_to ["book", "start"] (spTurnTo (clOf a)) := by
  have G_Rack_take_first : FnOk P w K mg base (CXe P w) 3 a.f_Rack_take_first a.fd_Rack_take_first ["self"] (spTakeFirst (clOf a)) := ok_Rack_take_first T
  have G_ring : FnOk P w K mg base (CXe P w) 5 a.f_ring a.fd_ring ["book", "number"] (spRing (clOf a)) := ok_ring T
  have G_start_waiting : FnOk P w K mg base (CXe P w) 4 a.f_start_waiting a.fd_start_waiting ["book", "number", "tick"] (spStart (clOf a)) := ok_start_waiting T
  refine T.F_turn_to.okN sc_turn_to (fun vs H Q E h => ?_) (fun cdv A' outer s H vs Q E hr h => ?_)
  · obtain ⟨A, sl, H0, B, S, n, start, goal, rfl, _⟩ := h
    rfl
  · obtain ⟨A, sl, H0, B, S, n, start, goal, rfl, b, ok, M, hg, kk⟩ := h
    have hu := hu_of hr
    refine ⟨_, (pss_cons (ps_fld (pv 0) (pv 1) rfl)
      (pss_cons (ps_set (i := 2) sc_turn_to.nd rfl (Or.inl rfl) (pe_lst pa_nil))
      (pss_cons (ps_for PassesOwn.never rfl (pi_list (pe_meth0 (pe_fld (pv 0) rfl) T.cl_Rack T.m_Rack_take_first G_Rack_take_first (hr.mono (by decide)) T.B_Rack_take_first .nil passN)) (pg_name (i := 3) sc_turn_to.nd rfl (Or.inl rfl)) (pss_one (ps_if (pt_cmpR op_eq (pe_dget hu (pe_fld (pv 0) rfl) (pv 3) (fun _ _ => rfl)) (pv 1) (nomark _)) (pss_one (ps_expr (pe_bm PySem.F.plainAttrs_list PySem.F.slot_list_append PySem.F.type_list_append mt_append (pv 2) (pa_cons (pe_call G_ring (hr.mono (by decide)) rfl T.f_ring T.kp_ring T.B_ring .nil passN (pa_cons (pv 0) (pa_cons (pv 3) pa_nil))) pa_nil)))) (pss_one (ps_expr (pe_call G_start_waiting (hr.mono (by decide)) rfl T.f_start_waiting T.kp_start_waiting T.B_start_waiting .nil passN (pa_cons (pv 0) (pa_cons (pv 3) (pa_cons (pe_dget hu (pe_fld (pv 0) rfl) (pv 3) (fun _ _ => rfl)) pa_nil)))))))))
      (pss_one (ps_ret (pv 2)))))), ?_⟩
    refine ⟨_, rfl, _, rfl, _, _, _, _, rfl, b.book, T.cl_Book, T.n_Book_now, (by show 7 < 1000; decide), ?_⟩
    have b1 := b.wNow start
    refine ⟨by decide, fun lr hlr => ?_⟩
    have b2 := b1.out (o := .lst []) (.inl hlr)
    have hlr0 : H0 lr = none := b1.same.free hlr
    refine ⟨_, rfl, _, _, _, _, _, rfl, b2.book, T.cl_Book, T.n_Book_rack, rfl, _, _, _, rfl, b2.rack, rfl, ?_⟩
    refine ⟨A, sl, _, _, S, n, B.now, get B.ticks, start, rfl, b2, ok.geo.up rfl rfl rfl, ok.rack, M, fun H3 l out rows' hl b3 e3 R3 hs hm => ?_⟩
    have hS := ok.rack.pS
    obtain ⟨k0, t0, hk0, hst0⟩ := M.one
    have hlt : B.now < start := by rw [← hst0]; exact lt_st hS (ok.rack.ahead k0 t0 hk0)
    have hlen : out.length ≤ 63 := by
      have q := (nodup_of_srt hs).length_le_of_subset (l₂ := (List.range 63).map (fun (i : Nat) => (i : Int))) fun k hk => by
        obtain ⟨t, ht, _⟩ := (hm k).mp hk
        obtain ⟨z1, z2⟩ := ok.rack.dom k t ht
        exact List.mem_map.mpr ⟨k.toNat, List.mem_range.mpr (by omega), by omega⟩
      simpa using q
    have hlne : lr ≠ l := fun z => by rw [← z, upd_same] at hl; cases hl
    refine ⟨_, rfl, ⟨_, SqL.of (b3.same _ _ upd_same)⟩, ?_⟩
    refine for_list (K := K) (a := l) (xs := out.map V.int) (fun i σ Hi => ∃ x sl' H1 Bi rs, σ = [some (.ref (A.ad .book)), some (.int start), some (.ref lr), x] ∧ Mid (clOf a) A sl' H0 B S n start goal out l lr i Hi H1 Bi rs)
      ?_ (fun i σ Hi _ ⟨x, sl', H1, Bi, rs, _, m⟩ => SqL.of (m.bk.same _ _ m.lst)) ?_ ?_
    · refine ⟨_, sl, _, _, [], rfl, b3, (Same.upd hlr0).trans (Same.upd hl), upd_same, ⟨[], rfl, by rw [upd_ne hlne, upd_same]; rfl, fun q hq => by cases hq⟩, ok.geo.up rfl rfl e3, (ok.out.nowS _).rows _, rfl, rfl, rfl, .nil, Nat.le_refl _, ?_, fun k hk => ?_⟩
      · refine (R3.later (Int.le_of_lt hlt) fun k t e => ?_).congr fun k => ?_
        · rw [Option.filter_eq_some_iff] at e
          have h1 := M.least k t e.1
          have h2 : ¬ st S n B.now t = start := by simpa using e.2
          omega
        · rw [List.drop_zero]
          show _ = if k ∈ out then none else get B.ticks k
          cases e : get B.ticks k with
          | none =>
            by_cases z : k ∈ out <;> simp [z]
          | some t =>
            have q := hm k
            rw [e] at q
            by_cases z : st S n B.now t = start
            · rw [if_pos (q.mpr ⟨t, rfl, z⟩)]
              simp [Option.filter, z]
            · rw [if_neg fun y => by
                obtain ⟨t', h1, h2⟩ := q.mp y
                cases h1
                exact z h2]
              simp [Option.filter, z]
      · rw [List.drop_zero] at hk
        obtain ⟨t, h1, h2⟩ := (hm k).mp hk
        exact ⟨t, h1, by rw [← h2]; exact st_le hS n B.now t⟩
    · rintro i v σ Hi hv ⟨x, sl', H1, Bi, rs, rfl, m⟩
      obtain ⟨k, hk, rfl⟩ : ∃ k, out[i]? = some k ∧ v = V.int k := by
        rw [List.getElem?_map] at hv
        cases e : out[i]? with
        | none => rw [e] at hv; cases hv
        | some k => rw [e] at hv; exact ⟨k, rfl, (Option.some.inj hv).symm⟩
      have hdr := drop_cons hk
      have hkd : k ∈ out.drop i := by rw [hdr]; exact List.mem_cons_self
      have hi : i < out.length := (List.getElem?_eq_some_iff.mp hk).1
      have srt' : (k :: out.drop (i + 1)).Pairwise (· < ·) := by rw [← hdr]; exact hs.sublist (List.drop_sublist _ _)
      obtain ⟨hlow, _⟩ := List.pairwise_cons.mp srt'
      have hkn : k ∉ out.drop (i + 1) := fun z => by have := hlow k z; omega
      have hmem : ∀ y, y ≠ k → (y ∈ out.drop i ↔ y ∈ out.drop (i + 1)) := fun y hy => by
        rw [hdr, List.mem_cons]
        exact ⟨fun z => z.resolve_left hy, .inr⟩
      obtain ⟨t, ht, hge⟩ := m.pend k hkd
      obtain ⟨nm, sp, hn, hsp, hw⟩ := m.ok.waits ht
      have gt := m.bk.getT k
      rw [ht] at gt
      have dm := m.ok.domT ht
      have nx63 := m.ok.nx
      have lns := m.ok.lens
      have hfk : (if k ∈ out.drop i then none else get Bi.ticks k) = none := if_pos hkd
      refine ⟨_, rfl, _, _, _, _, _, rfl, m.bk.book, T.cl_Book, T.n_Book_ticks, rfl, _, rfl, _, _, rfl, gt, _, rfl, rfl, _, rfl, ?_⟩
      refine ite2 (fun c => ?_) (fun c => ?_)
      · have c' : t = start := by have := of_decide_eq_true c; injection this
        subst c'
        obtain ⟨qs, eq, hql, hqt⟩ := id m.rng
        refine ⟨_, rfl, .inl ⟨rfl, _, SqL.of (m.bk.same _ _ hql)⟩, _, rfl, _, rfl, ?_⟩
        refine ⟨A, sl', H1, Bi, S, n, k, t, _, nm, sp, rfl, m.bk, m.geo, (by rw [m.now]; exact m.rack), hfk, by omega, by omega, by omega, ht, hn, hsp, fun s z => m.ok.pos k s (by rw [hsp, z]), fun H2 sl2 rows2 p hp b2 e2 R2 => ?_⟩
        have hl2 : H2 lr = some (.lst (qs.map fun q => V.ref q.1)) := b2.same _ _ (by rw [upd_ne (fun z => by rw [← z, hql] at hp; cases hp)]; exact hql)
        have hql2 : (upd H1 p (.tup (tripV (Bi.now, k, nm)))) lr = some (.lst (qs.map fun q => V.ref q.1)) := by rw [upd_ne (fun z => by rw [← z, hql] at hp; cases hp)]; exact hql
        have hrl : qs.length = rs.length := by rw [← eq, List.length_map]
        have hml := m.len
        refine ⟨_, _, _, rfl, rfl, hl2, small100 (by rw [List.length_map]; omega), ?_⟩
        have b4 := b2.out (x := lr) (o := .lst ((qs.map fun q => V.ref q.1) ++ [.ref p])) (.inr ⟨_, hql2⟩)
        have lrl : l ≠ lr := hlne.symm
        refine ⟨_, sl2, _, { ringB Bi k sp with rows := rows2 }, rs ++ [(t, k, nm)], rfl, b4, ?_, ?_, ?_, ?_, (m.ok.ringB ht hsp).rows rows2, ?_, ?_, ?_, ?_, ?_, ?_, fun y hy => ?_⟩
        · intro y u hy
          have hy1 := m.same y u hy
          rw [upd_ne (ne_of_none hy hlr0), upd_ne (ne_of_none hy1 hp)]
          exact hy1
        · rw [upd_ne lrl, upd_ne (ne_of_none m.lst hp)]
          exact m.lst
        · rw [← eq, show t = Bi.now from m.now.symm]
          exact RingsAt.snoc hql hqt hp
        · cases sp <;> exact m.geo.up rfl rfl e2
        · cases sp <;> exact m.now
        · cases sp <;> exact m.nx
        · rw [← m.rst]
          exact m.ok.rest_ringB ht
        · have q := m.ok.wait_ringB (k := k) (sp := sp) (nm := nm) (by rw [ht, m.now]) hsp hn
          have hst : wait { ringB Bi k sp with rows := rows2 } = fput (wait Bi) k (after ⟨nm, t, sp⟩) := by rw [← m.now]; rw [m.now]; rw [← show Bi.now = t from m.now]; exact q
          rw [hst]
          refine .snoc m.steps (a := ⟨nm, t, sp⟩) ⟨hw, hg, fun y z hz => ?_⟩
          obtain ⟨_, _, hzt⟩ := alarm_some.mp hz
          by_cases hy : y ∈ out.drop i
          · obtain ⟨t', h1, h2⟩ := m.pend y hy
            rw [hzt] at h1
            cases h1
            have hky : k ≤ y := by
              rw [hdr] at hy
              rcases List.mem_cons.mp hy with e | e
              · omega
              · exact Int.le_of_lt (hlow y e)
            show t < z.tick ∨ (t = z.tick ∧ k ≤ y)
            omega
          · have := m.rack.ahead y z.tick (by show (if y ∈ out.drop i then none else get Bi.ticks y) = _; rw [if_neg hy]; exact hzt)
            exact .inl this
        · rw [List.length_append, List.length_singleton]; have := m.len; omega
        · rw [← show Bi.now = t from m.now]
          refine R2.congr fun y => ?_
          show _ = if y ∈ out.drop (i + 1) then none else get (ringB Bi k sp).ticks y
          unfold gput
          by_cases hy : y = k
          · rw [if_pos hy, hy, if_neg hkn]
            cases sp with
            | none => show none = get (drop Bi.ticks k) k; rw [get_drop, if_pos rfl]
            | some x => show some (Bi.now + x) = get (put Bi.ticks k (Bi.now + x)) k; rw [get_put, if_pos rfl]
          · rw [if_neg hy, ringB_get hy]
            dsimp only
            by_cases hz : y ∈ out.drop (i + 1)
            · rw [if_pos hz, if_pos ((hmem y hy).mpr hz)]
            · rw [if_neg hz, if_neg fun q => hz ((hmem y hy).mp q)]
        · have hyk : y ≠ k := fun z => hkn (z ▸ hy)
          show ∃ t', get (ringB Bi k sp).ticks y = some t' ∧ t ≤ t'
          rw [ringB_get hyk]
          exact m.pend y ((hmem y hyk).mpr hy)
      · have c' : t ≠ start := fun z => c (decide_eq_true (congrArg V.int z))
        refine ⟨_, rfl, _, rfl, _, rfl, _, _, _, _, _, rfl, m.bk.book, T.cl_Book, T.n_Book_ticks, rfl, _, rfl, _, _, rfl, gt, ?_⟩
        refine ⟨A, sl', H1, Bi, S, n, k, t, _, rfl, m.bk, m.geo, (by rw [m.now]; exact m.rack), hfk, (by rw [m.now]; omega), by omega, by omega, by omega, fun H2 sl2 rows2 b2 e2 R2 => ?_⟩
        have eget : ∀ y, get (put Bi.ticks k t) y = get Bi.ticks y := fun y => by
          rw [get_put]
          by_cases hy : y = k
          · rw [if_pos hy, hy, ht]
          · rw [if_neg hy]
        have ew : wait { Bi with rows := rows2, ticks := put Bi.ticks k t } = wait Bi := by
          funext y
          show alarm (get Bi.names y) (get Bi.steps y) (get (put Bi.ticks k t) y) = _
          rw [eget]
          rfl
        refine ⟨_, sl2, H1, _, rs, rfl, b2, m.same, m.lst, m.rng, m.geo.up rfl rfl e2, (m.ok.sameT (nodup_put m.ok.ndT _ _) eget).rows rows2, m.now, m.nx, m.rst, (by rw [ew]; exact m.steps), (by have := m.len; omega), ?_, fun y hy => ?_⟩
        · rw [← m.now]
          refine R2.congr fun y => ?_
          show _ = if y ∈ out.drop (i + 1) then none else get (put Bi.ticks k t) y
          rw [eget]
          unfold gput
          by_cases hy : y = k
          · rw [if_pos hy, hy, if_neg hkn, ht]
          · rw [if_neg hy]
            dsimp only
            by_cases hz : y ∈ out.drop (i + 1)
            · rw [if_pos hz, if_pos ((hmem y hy).mpr hz)]
            · rw [if_neg hz, if_neg fun q => hz ((hmem y hy).mp q)]
        · have hyk : y ≠ k := fun z => hkn (z ▸ hy)
          show ∃ t', get (put Bi.ticks k t) y = some t' ∧ start ≤ t'
          rw [eget]
          exact m.pend y ((hmem y hyk).mpr hy)
    · rintro σ Hi ⟨x, sl', H1, Bi, rs, rfl, m⟩
      rw [List.length_map] at m
      have hR := m.rack
      rw [List.drop_length] at hR
      refine ⟨_, rfl, kk Hi sl' H1 Bi lr rs m.same hlr0 m.rng m.bk ⟨m.geo, (by rw [m.now]; exact hR.congr fun y => by simp), m.ok, by rw [m.now]; have := ok.nn; omega⟩ m.now m.nx m.rst m.steps (by have := m.len; omega)⟩
end
end Tk
end
section
namespace Tk
open PySem L2 Mir Rk Tb
open PyProof.Rows (boot_sorted boot_min boot_enumerate boot_isinstance)
/-- what a book tells -/
structure Vw where
  S : Int
  n : Nat
  now : Int
  next : Int
  wait : Fn Str
  rest : Fn Str
/-- a book stands at p; what stands in H0 is not its own -/
def BookAt (c : Cl) (H0 H : Hp) (p : Addr) (v : Vw) : Prop := ∃ A sl B, A.ad .book = p ∧ Bk c A sl H0 H B ∧ BOK v.S v.n B ∧ B.now = v.now ∧ B.next = v.next ∧ wait B = v.wait ∧ rest B = v.rest
theorem RingsAt.cat {H : Hp} {l : Addr} {qs qs2 : List (Addr × Int × Int × Str)} (h : H l = some (.lst (qs.map fun q => V.ref q.1))) (t : ∀ q ∈ qs, H q.1 = some (.tup (tripV q.2))) (t2 : ∀ q ∈ qs2, H q.1 = some (.tup (tripV q.2))) :
    RingsAt (upd H l (.lst ((qs.map fun q => V.ref q.1) ++ (qs2.map fun q => V.ref q.1)))) l (qs.map (·.2) ++ qs2.map (·.2)) := by
  refine ⟨qs ++ qs2, by simp, by rw [upd_same]; simp, fun q hq => ?_⟩
  have tq : H q.1 = some (.tup (tripV q.2)) := by
    rcases List.mem_append.mp hq with hq | hq
    · exact t q hq
    · exact t2 q hq
  rw [upd_ne fun z => by rw [z, h] at tq; cases tq]
  exact tq
section
variable {P : Program} {w : World} {K : PySem.W.Frag} {mg : Str → Option Value} {base : Heap} {a : Ad}
def spFirstStartX (c : Cl) : Sp := fun vs H Q _ => ∃ (A : Adr) (sl : Sl) (H0 : Hp) (B : BkS) (S : Int) (n : Nat) (now : Int) (f : Int → Option Int), vs = [.ref (A.ad .rack)] ∧ Bk c A sl H0 H B ∧ Geo S n B ∧ RackOK S n now B.rows f ∧ ∀ x, (((∀ k, f k = none) ∧ x = .non) ∨ ∃ m, IsMin S n now f m ∧ x = .int m) → Q x H
theorem ok_Rack_first_startX (T : Txt K mg a) : FnOk P w K mg base (CXe P w) 2 a.f_Rack_first_start a.fd_Rack_first_start ["self"] (spFirstStartX (clOf a)) :=
  (ok_Rack_first_start T).imp fun vs H Q E ⟨A, sl, H0, B, S, n, now, f, e, b, G, R, k⟩ => ⟨A, sl, H0, B, S, n, now, f, e, b, G, R, fun h => k _ (.inl ⟨h, rfl⟩), fun m hm => k _ (.inr ⟨m, hm, rfl⟩)⟩
def spPass (c : Cl) (Past : Addr) : Sp := fun vs H Q E => ∃ (H0 : Hp) (p : Addr) (v : Vw) (t : Int), vs = [.ref p, .int t] ∧ BookAt c H0 H p v ∧ Lg t ∧ (t < 0 → E (.ref Past) none H) ∧ (0 ≤ t → muF (v.now + t) 63 v.wait ≤ 1000000 ∧
  ∀ (H' H1 : Hp) (lr : Addr) (rs : List (Int × Int × Str)) (g : Fn Str), Same H0 H1 → H0 lr = none → RingsAt H1 lr rs → BookAt c H1 H' p { v with now := v.now + t, wait := g } → Runs (v.now + t) v.wait rs g → Q (.ref lr) H')
theorem sc_pass_ticks : FnScope ["book", "ticks", "end", "rung", "start"] ["book", "ticks"] (defScope s_pass_ticks) := ⟨rfl, rfl, rfl, by decide +kernel, rfl, by decide +kernel, by decide +kernel⟩
/-- while time goes on -/
structure Going (c : Cl) (A : Adr) (sl : Sl) (H0 : Hp) (B : BkS) (S : Int) (n : Nat) (goal : Int) (lr : Addr) (H : Hp) (H1 : Hp) (Bi : BkS) (rs : List (Int × Int × Str)) (x : V) : Prop where
  bk : Bk c A sl H1 H Bi
  same : Same H0 H1
  rng : RingsAt H1 lr rs
  ok : BOK S n Bi
  nx : Bi.next = B.next
  rst : rest Bi = rest B
  le : Bi.now ≤ goal
  steps : Steps goal (wait B) rs (wait Bi)
  st : ((∀ k, get Bi.ticks k = none) ∧ x = .non) ∨ ∃ m, IsMin S n Bi.now (get Bi.ticks) m ∧ x = .int m
theorem ok_pass_ticks (T : Txt K mg a) : FnOk P w K mg base (CXe P w) 7 a.f_pass_ticks a.fd_pass_ticks ["book", "ticks"] (spPass (clOf a) a.C_Past) := by
  have G_check_stretch : FnOk P w K mg base (CXe P w) 1 a.f_check_stretch a.fd_check_stretch ["ticks"] (spCheckStretch a.C_Past) := ok_check_stretch T
  have G_Rack_first_start : FnOk P w K mg base (CXe P w) 2 a.f_Rack_first_start a.fd_Rack_first_start ["self"] (spFirstStartX (clOf a)) := ok_Rack_first_startX T
  have G_turn_to : FnOk P w K mg base (CXe P w) 6 a.f_turn_to a.fd_turn_to ["book", "start"] (spTurnTo (clOf a)) := ok_turn_to T
  refine T.F_pass_ticks.okE sc_pass_ticks (fun vs H Q E h => ?_) (fun cdv A' outer s H vs Q E hr h => ?_)
  · obtain ⟨H0, p, v, t, rfl, _⟩ := h
    rfl
  · obtain ⟨H0, p, v, t, rfl, ⟨A, sl, B, rfl, b, ok, e1, e2, e3, e4⟩, hl, k0, k1⟩ := h
    have hu := hu_of hr
    refine ⟨_, (pss_cons (ps_expr (pe_call G_check_stretch (hr.mono (by decide)) rfl T.f_check_stretch T.kp_check_stretch T.B_check_stretch .nil passE (pa_cons (pv 1) pa_nil)))
      (pss_cons (ps_set (i := 2) sc_pass_ticks.nd rfl (Or.inl rfl) (pe_op op_add (pe_fld (pv 0) rfl) (pv 1)))
      (pss_cons (ps_set (i := 3) sc_pass_ticks.nd rfl (Or.inl rfl) (pe_lst pa_nil))
      (pss_cons (ps_set (i := 4) sc_pass_ticks.nd rfl (Or.inl rfl) (pe_meth0 (pe_fld (pv 0) rfl) T.cl_Rack T.m_Rack_first_start G_Rack_first_start (hr.mono (by decide)) T.B_Rack_first_start .nil passN))
      (pss_cons (PS.nox (ps_while PassesOwn.never (pw_and (pt_cmpR op_notN (pv 4) pe_non (nomark _)) (pw_and1 (pt_cmpR op_le (pv 4) (pv 2) (nomark _)))).pt (pss_cons (ps_expr (pe_bm PySem.F.plainAttrs_list PySem.F.slot_list_extend PySem.F.type_list_extend mt_extend (pv 3) (pa_cons (pe_call G_turn_to (hr.mono (by decide)) rfl T.f_turn_to T.kp_turn_to T.B_turn_to .nil passN (pa_cons (pv 0) (pa_cons (pv 4) pa_nil))) pa_nil)))
      (pss_one (ps_set (i := 4) sc_pass_ticks.nd rfl (Or.inl rfl) (pe_meth0 (pe_fld (pv 0) rfl) T.cl_Rack T.m_Rack_first_start G_Rack_first_start (hr.mono (by decide)) T.B_Rack_first_start .nil passN))))))
      (pss_cons (ps_fld (pv 0) (pv 2) rfl)
      (pss_one (ps_ret (pv 3))))))))), ?_⟩
    refine ⟨_, rfl, t, rfl, hl, k0, fun ht => ?_⟩
    obtain ⟨hmu, k1⟩ := k1 ht
    refine ⟨_, rfl, _, _, _, _, _, rfl, b.book, T.cl_Book, T.n_Book_now, rfl, _, rfl, _, _, rfl, rfl, ?_⟩
    refine ⟨by decide, fun lr hlr => ?_⟩
    have hlr0 : H0 lr = none := b.same.free hlr
    have b1 := b.out (o := .lst []) (.inl hlr)
    refine ⟨_, rfl, _, _, _, _, _, rfl, b1.book, T.cl_Book, T.n_Book_rack, rfl, _, _, _, rfl, b1.rack, rfl, ?_⟩
    refine ⟨A, sl, _, B, v.S, v.n, B.now, get B.ticks, rfl, b1, ok.geo, ok.rack, fun x hx => ?_⟩
    refine ⟨fun m σ Hi => ∃ x sl' H1 Bi rs, σ = [some (.ref (A.ad .book)), some (.int t), some (.int (B.now + t)), some (.ref lr), some x] ∧ Going (clOf a) A sl' H0 B v.S v.n (B.now + t) lr Hi H1 Bi rs x ∧ m = (B.now + t - Bi.now).toNat,
      ⟨_, x, sl, _, B, [], rfl, ⟨b1, Same.upd hlr0, ⟨[], rfl, upd_same, fun q hq => by cases hq⟩, ok, rfl, rfl, by omega, .nil, hx⟩, rfl⟩, ?_⟩
    rintro m σ Hi ⟨x, sl', H1, Bi, rs, rfl, g, rfl⟩
    have mu2 : rs.length + muF (B.now + t) 63 (wait Bi) ≤ 1000000 := by
      have := (g.steps.good ok.out.good).2
      rw [e1, e3] at *
      omega
    have fin : (∀ k y, get Bi.ticks k = some y → B.now + t < st v.S v.n Bi.now y) → ∀ (H2 : Hp), Bk (clOf a) A sl' H1 H2 { Bi with now := B.now + t } → Q (.ref lr) H2 := fun hb H2 b2 => by
      have hS := g.ok.rack.pS
      refine k1 H2 H1 lr rs (wait Bi) g.same hlr0 g.rng ⟨A, sl', _, rfl, b2, ⟨g.ok.geo.up rfl rfl rfl, g.ok.rack.later g.le hb, g.ok.out.nowS _, by show 0 ≤ B.now + t; have := ok.nn; omega⟩, by show B.now + t = v.now + t; rw [e1], g.nx.trans e2, rfl, g.rst.trans e4⟩ ?_
      rw [← e1, ← e3]
      refine g.steps.stop fun k al hal => ?_
      obtain ⟨_, _, h3⟩ := alarm_some.mp hal
      have := hb k _ h3
      have := st_le hS v.n Bi.now al.tick
      omega
    rcases g.st with ⟨hn, rfl⟩ | ⟨mm, hm, rfl⟩
    · refine ⟨_, rfl, rfl, _, rfl, iteF ?_⟩
      refine iteF ?_
      refine ⟨_, rfl, _, rfl, _, _, _, _, rfl, g.bk.book, T.cl_Book, T.n_Book_now, (by show 7 < 1000; decide), ?_⟩
      exact ⟨_, rfl, fin (fun k y e => by rw [hn k] at e; cases e) _ (g.bk.wNow _)⟩
    · refine ⟨_, rfl, rfl, _, rfl, iteT ?_⟩
      refine ⟨_, rfl, _, rfl, _, _, rfl, rfl, _, rfl, ?_⟩
      refine ite2 (fun c => ?_) (fun c => ?_)
      · have c' : mm ≤ B.now + t := of_decide_eq_true c
        have hlt : Bi.now < mm := by
          obtain ⟨k', t', h1, h2⟩ := hm.one
          rw [← h2]
          exact lt_st g.ok.rack.pS (g.ok.rack.ahead k' t' h1)
        refine ⟨fun σ' H' => ∃ x sl' H1 Bi' rs, σ' = [some (.ref (A.ad .book)), some (.int t), some (.int (B.now + t)), some (.ref lr), some x] ∧ Going (clOf a) A sl' H0 B v.S v.n (B.now + t) lr H' H1 Bi' rs x ∧ Bi.now < Bi'.now, fun σ' H' ⟨x, sl2, H2, Bi', rs2, h1, h2, h3⟩ => ⟨_, ?_, x, sl2, H2, Bi', rs2, h1, h2, rfl⟩, ?_⟩
        · have := h2.le
          have := g.le
          omega
        · obtain ⟨qs, eq, hql, hqt⟩ := id g.rng
          refine ⟨_, rfl, .inl ⟨rfl, _, SqL.of (g.bk.same _ _ hql)⟩, _, rfl, _, rfl, ?_⟩
          refine ⟨A, sl', H1, Bi, v.S, v.n, mm, B.now + t, rfl, g.bk, g.ok, hm, c', fun H2 sl2 H3 B3 l3 rs3 s3 hl3 r3 b3 ok3 n3 nx3 rst3 st3 len3 => ?_⟩
          obtain ⟨qs3, eq3, hql3, hqt3⟩ := r3
          have hq1 : H3 lr = _ := s3 _ _ hql
          have hll : qs.length = rs.length := by rw [← eq, List.length_map]
          have hll3 : qs3.length = rs3.length := by rw [← eq3, List.length_map]
          have b4 := b3.out (x := lr) (o := .lst ((qs.map fun q => V.ref q.1) ++ (qs3.map fun q => V.ref q.1))) (.inr ⟨_, hq1⟩)
          refine ⟨_, _, _, _, rfl, rfl, b3.same _ _ hq1, b3.same _ _ hql3, (by rw [List.length_map, List.length_map]; have : (1000063 : Nat) ≤ sizeLine := by decide
                                                                               omega), ?_⟩
          refine ⟨_, rfl, _, _, _, _, _, rfl, b4.book, T.cl_Book, T.n_Book_rack, rfl, _, _, _, rfl, b4.rack, rfl, ?_⟩
          refine ⟨A, sl2, _, B3, v.S, v.n, B3.now, get B3.ticks, rfl, b4, ok3.geo, ok3.rack, fun x hx => ?_⟩
          refine ⟨x, sl2, _, B3, rs ++ rs3, rfl, ⟨b4, fun y u hy => ?_, ?_, ok3, nx3.trans g.nx, rst3.trans g.rst, by omega, g.steps.trans st3, hx⟩, by omega⟩
          · rw [upd_ne (ne_of_none hy hlr0)]
            exact s3 _ _ (g.same _ _ hy)
          · rw [← eq, ← eq3]
            exact RingsAt.cat hq1 (fun q hq => s3 _ _ (hqt q hq)) hqt3
      · have c' : ¬ mm ≤ B.now + t := fun z => c (decide_eq_true z)
        refine ⟨_, rfl, _, rfl, _, _, _, _, rfl, g.bk.book, T.cl_Book, T.n_Book_now, (by show 7 < 1000; decide), ?_⟩
        exact ⟨_, rfl, fin (fun k y e => by have := hm.least k y e; omega) _ (g.bk.wNow _)⟩
end
end Tk
end
section
namespace Tk
open PySem L2 Mir Rk Tb
open PyProof.Rows (boot_sorted boot_min boot_enumerate boot_isinstance)
section
variable {P : Program} {w : World} {K : PySem.W.Frag} {mg : Str → Option Value} {base : Heap} {a : Ad}
/-! ### set_alarm -/
def spSet (c : Cl) (Past : Addr) : Sp := fun vs H Q E => ∃ (H0 : Hp) (p : Addr) (v : Vw) (x : Str) (due : Int) (sp : Option Int), vs = [.ref p, .str x, .int due, stepV sp] ∧ BookAt c H0 H p v ∧ Lg due ∧ (∀ s, sp = some s → Lg s) ∧ v.next < 63 ∧
  ((due ≤ v.now ∨ ∃ s, sp = some s ∧ s < 1) → E (.ref Past) none H) ∧ (v.now < due → (∀ s, sp = some s → 1 ≤ s) → ∀ H', BookAt c H0 H' p { v with next := v.next + 1, wait := fput v.wait v.next (some ⟨x, due, sp⟩) } → Q (.int v.next) H')
theorem sc_set_alarm : FnScope ["book", "name", "due", "step", "number"] ["book", "name", "due", "step"] (defScope s_set_alarm) := ⟨rfl, rfl, rfl, by decide +kernel, rfl, by decide +kernel, by decide +kernel⟩
theorem ok_set_alarm (T : Txt K mg a) : FnOk P w K mg base (CXe P w) 5 a.f_set_alarm a.fd_set_alarm ["book", "name", "due", "step"] (spSet (clOf a) a.C_Past) := by
  have G_check_tick : FnOk P w K mg base (CXe P w) 1 a.f_check_tick a.fd_check_tick ["book", "due"] (spCheckTick (clOf a) a.C_Past) := ok_check_tick T
  have G_check_step : FnOk P w K mg base (CXe P w) 1 a.f_check_step a.fd_check_step ["step"] (spCheckStep a.C_Past) := ok_check_step T
  have G_start_waiting : FnOk P w K mg base (CXe P w) 4 a.f_start_waiting a.fd_start_waiting ["book", "number", "tick"] (spStart (clOf a)) := ok_start_waiting T
  refine T.F_set_alarm.okE sc_set_alarm (fun vs H Q E h => ?_) (fun cdv A' outer s H vs Q E hr h => ?_)
  · obtain ⟨H0, p, v, x, due, sp, rfl, _⟩ := h
    rfl
  · obtain ⟨H0, p, v, x, due, sp, rfl, ⟨A, sl, B, rfl, b, ok, e1, e2, e3, e4⟩, hl1, hl2, h63, k0, k1⟩ := h
    have hu := hu_of hr
    refine ⟨_, (pss_cons (ps_expr (pe_call G_check_tick (hr.mono (by decide)) rfl T.f_check_tick T.kp_check_tick T.B_check_tick .nil passE (pa_cons (pv 0) (pa_cons (pv 2) pa_nil))))
      (pss_cons (ps_expr (pe_call G_check_step (hr.mono (by decide)) rfl T.f_check_step T.kp_check_step T.B_check_step .nil passE (pa_cons (pv 3) pa_nil)))
      (pss_cons (ps_set (i := 4) sc_set_alarm.nd rfl (Or.inl rfl) (pe_fld (pv 0) rfl))
      (pss_cons (ps_fld (pv 0) (pe_op op_add (pv 4) pe_int) rfl)
      (pss_cons (ps_dput hu (pe_fld (pv 0) rfl) (pv 4) (pv 1) rfl)
      (pss_cons (ps_dput hu (pe_fld (pv 0) rfl) (pv 4) (pv 3) rfl)
      (pss_cons (ps_expr (pe_call G_start_waiting (hr.mono (by decide)) rfl T.f_start_waiting T.kp_start_waiting T.B_start_waiting .nil passN (pa_cons (pv 0) (pa_cons (pv 4) (pa_cons (pv 2) pa_nil)))))
      (pss_one (ps_ret (pv 4)))))))))), ?_⟩
    refine ⟨_, rfl, _, rfl, A, sl, H0, B, due, rfl, b, hl1, fun z => k0 (.inl (by omega)), fun hd => ?_⟩
    refine ⟨_, rfl, sp, rfl, hl2, fun s z1 z2 => k0 (.inr ⟨s, z1, z2⟩), fun hs => ?_⟩
    have nx := ok.out.nx
    have lns := ok.out.lens
    refine ⟨_, rfl, _, _, _, _, _, rfl, b.book, T.cl_Book, T.n_Book_next_number, rfl, ?_⟩
    refine ⟨_, rfl, _, _, rfl, rfl, _, rfl, _, _, _, _, rfl, b.book, T.cl_Book, T.n_Book_next_number, (by show 7 < 1000; decide), ?_⟩
    have b1 := b.wNext (B.next + 1)
    refine ⟨_, rfl, _, rfl, _, _, _, _, _, rfl, b1.book, T.cl_Book, T.n_Book_names, rfl, _, rfl, _, _, rfl, b1.putN B.next x (by show B.names.length ≤ 1000; omega), ?_⟩
    have b2 := b1.wNames (put B.names B.next x)
    refine ⟨_, rfl, _, rfl, _, _, _, _, _, rfl, b2.book, T.cl_Book, T.n_Book_steps, rfl, _, rfl, _, _, rfl, b2.putSt B.next sp (by show B.steps.length ≤ 1000; omega), ?_⟩
    have b3 := b2.wSteps (put B.steps B.next sp)
    refine ⟨_, rfl, _, rfl, _, rfl, ?_⟩
    obtain ⟨f1, f2, f3, f4⟩ := ok.out.fresh
    refine ⟨A, sl, H0, _, v.S, v.n, B.next, due, get B.ticks, rfl, b3, ok.geo.up rfl rfl rfl, ok.rack, f3, hd, nx.1, by omega, by show B.ticks.length ≤ 1000; omega, fun H4 sl4 rows4 b4 e5 R4 => ?_⟩
    refine ⟨_, rfl, ?_⟩
    rw [← e2] at k1
    refine k1 (by omega) hs H4 ⟨A, sl4, _, rfl, b4, ⟨ok.geo.up rfl rfl e5, ?_, (ok.out.setB (name := x) (due := due) (step := sp) (by omega) hs).rows rows4, ok.nn⟩, e1, rfl, ?_, ?_⟩
    · refine R4.congr fun k => ?_
      show gput (get B.ticks) B.next (some due) k = get (put B.ticks B.next due) k
      rw [get_put]
      rfl
    · rw [← e3]
      exact ok.out.wait_setB
    · rw [← e4]
      exact ok.out.rest_setB (due := due)
/-! ### what a book is asked -/
def spTime (c : Cl) : Sp := fun vs H Q _ => ∃ (H0 : Hp) (p : Addr) (v : Vw), vs = [.ref p] ∧ BookAt c H0 H p v ∧ Q (.int v.now) H
theorem sc_Book_time : FnScope ["self"] ["self"] (defScope s_Book_time) := ⟨rfl, rfl, rfl, by decide +kernel, rfl, by decide +kernel, by decide +kernel⟩
theorem ok_Book_time (T : Txt K mg a) : FnOk P w K mg base (CXe P w) 1 a.f_Book_time a.fd_Book_time ["self"] (spTime (clOf a)) := by
  refine T.F_Book_time.okN sc_Book_time (fun vs H Q E h => ?_) (fun cdv A' outer s H vs Q E hr h => ?_)
  · obtain ⟨H0, p, v, rfl, _⟩ := h
    rfl
  · obtain ⟨H0, p, v, rfl, ⟨A, sl, B, rfl, b, ok, e1, e2, e3, e4⟩, k⟩ := h
    refine ⟨_, pss_one (ps_ret (pe_fld (pv 0) rfl)), ?_⟩
    rw [← e1] at k
    exact ⟨_, rfl, _, _, _, _, _, rfl, b.book, T.cl_Book, T.n_Book_now, rfl, k⟩
/-- the numbers of f, rising -/
def NumsOf (f : Fn Str) (l : List Int) : Prop := l.Pairwise (· < ·) ∧ ∀ x, x ∈ l ↔ (f x).isSome = true
def spNums (c : Cl) (pick : Vw → Fn Str) : Sp := fun vs H Q _ => ∃ (H0 : Hp) (p : Addr) (v : Vw), vs = [.ref p] ∧ BookAt c H0 H p v ∧ ∀ (H' : Hp) (l : Addr) (out : List Int), H0 l = none → BookAt c (upd H0 l (.lst (out.map V.int))) H' p v → NumsOf (pick v) out → Q (.ref l) H'
theorem sc_Book_waiting : FnScope ["self"] ["self"] (defScope s_Book_waiting) := ⟨rfl, rfl, rfl, by decide +kernel, rfl, by decide +kernel, by decide +kernel⟩
theorem mapK_pairs {α : Type} (f : α → V) (t : Dct α) : mapK (fun _ x => f x) t = (t.map fun p => (p.1, f p.2)).map fun p => (Sum.inl p.1, p.2) := by
  unfold mapK
  rw [List.map_map]
  rfl
theorem keys_some {α : Type} {t : Dct α} {x : Int} : x ∈ keys t ↔ (get t x).isSome = true := by
  cases e : get t x with
  | none => simp [get_none.mp e]
  | some v =>
    simp
    rcases Classical.em (x ∈ keys t) with z | z
    · simpa [keys] using z
    · rw [get_none.mpr z] at e; cases e
theorem ok_Book_waiting (T : Txt K mg a) : FnOk P w K mg base (CXe P w) 1 a.f_Book_waiting a.fd_Book_waiting ["self"] (spNums (clOf a) (·.wait)) := by
  refine T.F_Book_waiting.okN sc_Book_waiting (fun vs H Q E h => ?_) (fun cdv A' outer s H vs Q E hr h => ?_)
  · obtain ⟨H0, p, v, rfl, _⟩ := h
    rfl
  · obtain ⟨H0, p, v, rfl, ⟨A, sl, B, rfl, b, ok, e1, e2, e3, e4⟩, k⟩ := h
    refine ⟨_, (pss_one (ps_ret (pe_callB (call_sortedD rfl) rfl T.b_sorted boot_sorted (pa_cons (pe_fld (pv 0) rfl) pa_nil)))), ?_⟩
    have lns := ok.out.lens
    refine ⟨_, rfl, _, _, _, _, _, rfl, b.book, T.cl_Book, T.n_Book_ticks, rfl, _, B.ticks.map fun p => (p.1, V.int p.2), rfl, (by rw [← mapK_pairs]; exact b.ticks), (by rw [List.length_map]; omega), fun out hperm hsort l hl => ?_⟩
    have e5 : (B.ticks.map fun p => (p.1, V.int p.2)).map (·.1) = keys B.ticks := by rw [List.map_map]; rfl
    rw [e5] at hperm
    obtain ⟨h1, h2⟩ := srt_of_perm hperm hsort ok.out.ndT
    refine k _ l out (b.same.free hl) ⟨A, sl, B, rfl, b.out (.inl hl), ok, e1, e2, e3, e4⟩ ⟨h1, fun x => ?_⟩
    show x ∈ out ↔ (v.wait x).isSome = true
    rw [h2 x, keys_some, ← e3, ← ok.out.tick_of x]
    cases wait B x <;> rfl
def spDue (c : Cl) (NotThere : Addr) : Sp := fun vs H Q E => ∃ (H0 : Hp) (p : Addr) (v : Vw) (k : Int), vs = [.ref p, .int k] ∧ BookAt c H0 H p v ∧ Lg k ∧ (v.wait k = none → E (.ref NotThere) none H) ∧ ∀ al, v.wait k = some al → Q (.int al.tick) H
theorem sc_Book_due : FnScope ["self", "number"] ["self", "number"] (defScope s_Book_due) := ⟨rfl, rfl, rfl, by decide +kernel, rfl, by decide +kernel, by decide +kernel⟩
theorem ok_Book_due (T : Txt K mg a) : FnOk P w K mg base (CXe P w) 1 a.f_Book_due a.fd_Book_due ["self", "number"] (spDue (clOf a) a.C_NotThere) := by
  refine T.F_Book_due.okE sc_Book_due (fun vs H Q E h => ?_) (fun cdv A' outer s H vs Q E hr h => ?_)
  · obtain ⟨H0, p, v, k, rfl, _⟩ := h
    rfl
  · obtain ⟨H0, p, v, k, rfl, ⟨A, sl, B, rfl, b, ok, e1, e2, e3, e4⟩, hl, k0, k1⟩ := h
    have hu := hu_of hr
    refine ⟨_, (pss_cons (ps_if (pt_cmp (pc_dnotin hu (pv 1) (pe_fld (pv 0) rfl))) (pss_one (ps_raise rz_fn rfl rfl T.c_NotThere T.x_NotThere (pa_cons (pe_fstr (pf_str (pf_int (pv 1) (pf_str pf_nil)))) pa_nil))) pss_nil)
      (pss_one (ps_ret (pe_dget hu (pe_fld (pv 0) rfl) (pv 1) (fun _ _ => rfl))))), ?_⟩
    have g := b.getT k
    refine ⟨_, rfl, _, rfl, _, _, _, _, _, rfl, b.book, T.cl_Book, T.n_Book_ticks, rfl, _, _, rfl, g, _, rfl, ?_⟩
    have tk := ok.out.tick_of k
    rw [e3] at tk
    cases e : get B.ticks k with
    | none =>
      rw [e] at tk
      have : v.wait k = none := by simpa using tk
      exact iteT ⟨_, rfl, _, rfl, hl, fun y => ⟨by show 1 ≤ sizeLine; decide, k0 this⟩⟩
    | some t =>
      rw [e] at g tk
      cases e6 : v.wait k with
      | none => rw [e6] at tk; cases tk
      | some al =>
        rw [e6] at tk
        have e7 : al.tick = t := by simpa using tk
        refine iteF ⟨_, rfl, _, _, _, _, _, rfl, b.book, T.cl_Book, T.n_Book_ticks, rfl, _, rfl, _, _, rfl, g, ?_⟩
        rw [← e7]
        exact k1 al e6
/-! ### soonest -/
def spSoonest (c : Cl) : Sp := fun vs H Q _ => ∃ (H0 : Hp) (p : Addr) (v : Vw), vs = [.ref p] ∧ BookAt c H0 H p v ∧ ∀ H', BookAt c H0 H' p v → ((∀ k, v.wait k = none) → Q .non H') ∧ ∀ m k al, v.wait k = some al → al.tick = m → (∀ k' al', v.wait k' = some al' → m ≤ al'.tick) → Q (.int m) H'
theorem sc_Book_soonest : FnScope ["self"] ["self"] (defScope s_Book_soonest) := ⟨rfl, rfl, rfl, by decide +kernel, rfl, by decide +kernel, by decide +kernel⟩
theorem ok_Book_soonest (T : Txt K mg a) : FnOk P w K mg base (CXe P w) 3 a.f_Book_soonest a.fd_Book_soonest ["self"] (spSoonest (clOf a)) := by
  have G_Rack_first_numbers : FnOk P w K mg base (CXe P w) 2 a.f_Rack_first_numbers a.fd_Rack_first_numbers ["self"] (spFirstNumbers (clOf a)) := ok_Rack_first_numbers T
  refine T.F_Book_soonest.okN sc_Book_soonest (fun vs H Q E h => ?_) (fun cdv A' outer s H vs Q E hr h => ?_)
  · obtain ⟨H0, p, v, rfl, _⟩ := h
    rfl
  · obtain ⟨H0, p, v, rfl, ⟨A, sl, B, rfl, b, ok, e1, e2, e3, e4⟩, k⟩ := h
    have hu := hu_of hr
    refine ⟨_, (pss_one (ps_ret (pe_minD rfl rfl T.b_min (pa_cons (pe_compA (te := tDGet (tFld K (tVar 1) "ticks") (tVar 0)) (NB := ["number", "self"]) (fv := [none, some 0]) (jx := 0) rfl (compOk_fn rfl rfl (by decide +kernel)) (pi_list (pe_meth0 (pe_fld (pv 0) rfl) T.cl_Rack T.m_Rack_first_numbers G_Rack_first_numbers (hr.mono (by decide)) T.B_Rack_first_numbers .nil passN)) rfl rfl rfl (fun _ _ _ => pifs_nil) (fun _ _ _ => pe_dget hu (pe_fld (pv 1) rfl) (pv 0) (fun _ _ => rfl))) pa_nil)))), ?_⟩
    refine ⟨_, rfl, _, _, _, _, _, rfl, b.book, T.cl_Book, T.n_Book_rack, rfl, _, _, _, rfl, b.rack, rfl, ?_⟩
    refine ⟨A, sl, H0, B, v.S, v.n, B.now, get B.ticks, rfl, b, ok.geo, ok.rack, fun H1 l out hl b1 hs hm hnil => ?_⟩
    have hS := ok.rack.pS
    have hsz : out.length ≤ 63 := by
      have q := (nodup_of_srt hs).length_le_of_subset (l₂ := (List.range 63).map (fun (i : Nat) => (i : Int))) fun x hx => by
        obtain ⟨t, ht, _⟩ := (hm x).mp hx
        obtain ⟨z1, z2⟩ := ok.rack.dom x t ht
        exact List.mem_map.mpr ⟨x.toNat, List.mem_range.mpr (by omega), by omega⟩
      simpa using q
    refine ⟨_, rfl, ⟨_, SqL.of (b1.same _ _ upd_same)⟩, ?_⟩
    refine comp_list (K := K) (a := l) (xs := out.map V.int) (fun i ys Hi => Hi = H1 ∧ ys = (out.take i).map fun x => V.int ((get B.ticks x).getD 0)) ⟨rfl, rfl⟩ (fun i ys Hi hi ⟨e, ey⟩ => ⟨by rw [e]; exact SqL.of (b1.same _ _ upd_same), by rw [ey, List.length_map, List.length_take]; exact small100 (by omega)⟩) ?_ ?_
    · rintro i x ys Hi Q' hx ⟨rfl, rfl⟩ kq
      obtain ⟨y, hy, rfl⟩ : ∃ y, out[i]? = some y ∧ x = V.int y := by
        rw [List.getElem?_map] at hx
        cases e : out[i]? with
        | none => rw [e] at hx; cases hx
        | some y => rw [e] at hx; exact ⟨y, rfl, (Option.some.inj hx).symm⟩
      obtain ⟨t, ht, _⟩ := (hm y).mp (List.mem_of_getElem? hy)
      have g := b1.getT y
      rw [ht] at g
      refine ⟨_, rfl, _, _, _, _, _, rfl, b1.book, T.cl_Book, T.n_Book_ticks, rfl, _, rfl, _, _, rfl, g, kq _ _ ⟨rfl, ?_⟩⟩
      rw [List.take_add_one, hy, List.map_append]
      congr 1
      show _ = [V.int ((get B.ticks y).getD 0)]
      rw [ht]
      rfl
    · rintro ys Hi ⟨rfl, rfl⟩ acc hacc
      rw [List.length_map, List.take_length]
      refine ⟨_, rfl, acc, out.map fun x => (get B.ticks x).getD 0, rfl, SqL.of (by rw [List.map_map]; exact upd_same), ?_⟩
      have hb : BookAt (clOf a) H0 (upd Hi acc (.lst (out.map fun x => V.int ((get B.ticks x).getD 0)))) (A.ad .book) v := ⟨A, sl, B, rfl, (b1.weak (Same.upd hl)).temp hacc, ok, e1, e2, e3, e4⟩
      obtain ⟨kn, ks⟩ := k _ hb
      refine ⟨fun e => kn fun x => ?_, fun m hm1 hm2 => ?_⟩
      · have e5 : out = [] := by simpa using e
        have tk := ok.out.tick_of x
        rw [hnil e5 x, e3] at tk
        simpa using tk
      · obtain ⟨x, hx, ex⟩ := List.mem_map.mp hm1
        obtain ⟨t, ht, M⟩ := (hm x).mp hx
        rw [ht] at ex
        have ex' : t = m := ex
        obtain ⟨nm, sp, _, _, hw⟩ := ok.out.waits ht
        rw [e3] at hw
        refine ks m x _ hw ex' fun k' al' hal => ?_
        rw [← e3] at hal
        obtain ⟨_, _, ht'⟩ := alarm_some.mp hal
        have hle := M.least k' _ ht'
        rcases Int.lt_or_eq_of_le hle with z | z
        · have := st_lt hS (ok.rack.ahead x t ht) (ok.rack.ahead k' _ ht') z
          have := st_le hS v.n B.now al'.tick
          omega
        · have hk' : k' ∈ out := (hm k').mpr ⟨_, ht', by rw [← z]; exact M⟩
          have := hm2 ((get B.ticks k').getD 0) (List.mem_map.mpr ⟨k', hk', rfl⟩)
          rw [ht'] at this
          exact this
end
end Tk
end
section
namespace Tk
open PySem L2 Mir Rk Tb
open PyProof.Rows (boot_sorted boot_min boot_enumerate boot_isinstance)
section
variable {P : Program} {w : World} {K : PySem.W.Frag} {mg : Str → Option Value} {base : Heap} {a : Ad}
def GoodW (S n : Int) : Prop := (2 ≤ S ∧ S ≤ 64) ∧ 1 ≤ n ∧ n ≤ 6
def spCheckWheels (Bad : Addr) : Sp := fun vs H Q E => ∃ (S n : Int), vs = [.int S, .int n] ∧ Lg S ∧ Lg n ∧ (¬ GoodW S n → E (.ref Bad) none H) ∧ (GoodW S n → Q .non H)
theorem sc_check_wheels : FnScope ["slots", "levels"] ["slots", "levels"] (defScope s_check_wheels) := ⟨rfl, rfl, rfl, by decide +kernel, rfl, by decide +kernel, by decide +kernel⟩
theorem ok_check_wheels (T : Txt K mg a) : FnOk P w K mg base (CXe P w) 1 a.f_check_wheels a.fd_check_wheels ["slots", "levels"] (spCheckWheels a.C_BadWheels) := by
  refine T.F_check_wheels.okE sc_check_wheels (fun vs H Q E h => ?_) (fun cdv A' outer s H vs Q E hr h => ?_)
  · obtain ⟨S, n, rfl, _⟩ := h
    rfl
  · obtain ⟨S, n, rfl, l1, l2, k0, k1⟩ := h
    refine ⟨_, (pss_cons (ps_if (pw_or (pt_cmpR op_lt (pv 0) (pe_gint T.k_FEWEST_SLOTS) (nomark _)) (pw_or1 (pt_cmpR op_gt (pv 0) (pe_gint T.k_MOST_SLOTS) (nomark _)))).pt
        (pss_one (ps_raise rz_fn rfl rfl T.c_BadWheels T.x_BadWheels (pa_cons (pe_fstr (pf_str (pf_int (pe_gint T.k_FEWEST_SLOTS) (pf_str (pf_int (pe_gint T.k_MOST_SLOTS) (pf_str (pf_int (pv 0) pf_nil))))))) pa_nil))) pss_nil)
      (pss_one (ps_if (pw_or (pt_cmpR op_lt (pv 1) (pe_gint T.k_FEWEST_LEVELS) (nomark _)) (pw_or1 (pt_cmpR op_gt (pv 1) (pe_gint T.k_MOST_LEVELS) (nomark _)))).pt
        (pss_one (ps_raise rz_fn rfl rfl T.c_BadWheels T.x_BadWheels (pa_cons (pe_fstr (pf_str (pf_int (pe_gint T.k_FEWEST_LEVELS) (pf_str (pf_int (pe_gint T.k_MOST_LEVELS) (pf_str (pf_int (pv 1) pf_nil))))))) pa_nil))) pss_nil))), ?_⟩
    have b2 : Lg 2 := by unfold Lg; decide
    have b64 : Lg 64 := by unfold Lg; decide
    have b1 : Lg 1 := by unfold Lg; decide
    have b6 : Lg 6 := by unfold Lg; decide
    have z1 : ∀ y : Str, [V.str y].length ≤ sizeLine := fun y => by show 1 ≤ sizeLine; decide
    refine ⟨_, rfl, _, _, rfl, rfl, _, rfl, ite2 (fun c => iteT ?_) (fun c => ?_)⟩
    · have c' : S < 2 := of_decide_eq_true c
      exact ⟨_, rfl, b2, _, rfl, b64, _, rfl, _, rfl, l1, fun y => ⟨z1 y, k0 fun z => by have := z.1.1; omega⟩⟩
    · have c' : ¬ S < 2 := fun z => c (decide_eq_true z)
      refine ⟨_, rfl, _, _, rfl, rfl, _, rfl, ite2 (fun d => ?_) (fun d => ?_)⟩
      · have d' : 64 < S := of_decide_eq_true d
        exact ⟨_, rfl, b2, _, rfl, b64, _, rfl, _, rfl, l1, fun y => ⟨z1 y, k0 fun z => by have := z.1.2; omega⟩⟩
      · have d' : ¬ 64 < S := fun z => d (decide_eq_true z)
        refine ⟨_, rfl, _, _, rfl, rfl, _, rfl, ite2 (fun e => iteT ?_) (fun e => ?_)⟩
        · have e' : n < 1 := of_decide_eq_true e
          exact ⟨_, rfl, b1, _, rfl, b6, _, rfl, _, rfl, l2, fun y => ⟨z1 y, k0 fun z => by have := z.2.1; omega⟩⟩
        · have e' : ¬ n < 1 := fun z => e (decide_eq_true z)
          refine ⟨_, rfl, _, _, rfl, rfl, _, rfl, ite2 (fun g => ?_) (fun g => ?_)⟩
          · have g' : 6 < n := of_decide_eq_true g
            exact ⟨_, rfl, b1, _, rfl, b6, _, rfl, _, rfl, l2, fun y => ⟨z1 y, k0 fun z => by have := z.2.2; omega⟩⟩
          · have g' : ¬ 6 < n := fun z => g (decide_eq_true z)
            exact k1 ⟨⟨by omega, by omega⟩, by omega, by omega⟩
def spSlotSpans : Sp := fun vs H Q _ => ∃ (S : Int) (n : Nat), vs = [.int S, .int n] ∧ 2 ≤ S ∧ S ≤ 64 ∧ 1 ≤ n ∧ n ≤ 6 ∧ ∀ (H' : Hp) (l : Addr), H l = none → Same H H' → H' l = some (.lst ((spansOf S n).map V.int)) → Q (.ref l) H'
theorem sc_slot_spans : FnScope ["slots", "levels", "spans", "level"] ["slots", "levels"] (defScope s_slot_spans) := ⟨rfl, rfl, rfl, by decide +kernel, rfl, by decide +kernel, by decide +kernel⟩
theorem spans_at {S : Int} {n i : Nat} (h : i < n) : (spansOf S n)[i]? = some (S ^ i) := by
  unfold spansOf
  rw [List.getElem?_map, List.getElem?_range h]
  rfl
theorem spans_succ {S : Int} {n : Nat} : spansOf S (n + 1) = spansOf S n ++ [S ^ n] := by
  unfold spansOf
  rw [List.range_succ, List.map_append]
  rfl
theorem ok_slot_spans (T : Txt K mg a) : FnOk P w K mg base (CXe P w) 1 a.f_slot_spans a.fd_slot_spans ["slots", "levels"] spSlotSpans := by
  refine T.F_slot_spans.okN sc_slot_spans (fun vs H Q E h => ?_) (fun cdv A' outer s H vs Q E hr h => ?_)
  · obtain ⟨S, n, rfl, _⟩ := h
    rfl
  · obtain ⟨S, n, rfl, h1, h2, h3, h4, k⟩ := h
    refine ⟨_, (pss_cons (ps_set (i := 2) sc_slot_spans.nd rfl (Or.inl rfl) (pe_lst (pa_cons pe_int pa_nil)))
      (pss_cons (ps_for PassesOwn.never rfl (pi_range2 rfl T.b_range (pa_cons pe_int (pa_cons (pv 1) pa_nil))) (pg_name (i := 3) sc_slot_spans.nd rfl (Or.inl rfl)) (pss_one (ps_expr (pe_bm PySem.F.plainAttrs_list PySem.F.slot_list_append PySem.F.type_list_append mt_append (pv 2) (pa_cons (pe_op op_mul (pe_ix ix_list (pv 2) (pe_op op_sub (pv 3) pe_int) (fun _ _ => rfl)) (pv 0)) pa_nil)))))
      (pss_one (ps_ret (pv 2))))), ?_⟩
    refine ⟨by decide, fun l hl => ?_⟩
    refine ⟨_, rfl, 1, n, rfl, ⟨by decide, by decide, by omega, by omega⟩, ?_⟩
    refine for_range (lo := 1) (n := ((n : Int) - 1).toNat) (fun i σ Hi => ∃ x, σ = [some (.int S), some (.int n), some (.ref l), x] ∧ Same H Hi ∧ Hi l = some (.lst ((spansOf S (i + 1)).map V.int))) ⟨_, rfl, Same.upd hl, ?_⟩ ?_ ?_
    · rw [upd_same]
      simp [spansOf]
    · rintro i σ Hi hi ⟨x, rfl, s1, hi1⟩
      obtain ⟨p1, p2⟩ := pow_small h1 h2 (i := i) (by omega)
      refine ⟨_, rfl, .inl ⟨rfl, _, SqL.of hi1⟩, _, rfl, _, rfl, _, _, rfl, rfl, _, _, _, .int (S ^ i), rfl, rfl, SqL.of hi1, ?_, ?_⟩
      · rw [show (1 + (i : Int)) - 1 = ((i : Nat) : Int) by omega]
        exact atI_nat (by rw [List.getElem?_map, spans_at (by omega)]; rfl)
      · refine ⟨_, rfl, _, _, rfl, rfl, .inl ⟨by omega, Int.lt_of_le_of_lt p2 (by decide)⟩, ?_⟩
        refine ⟨_, _, _, rfl, rfl, hi1, small100 (by rw [List.length_map]; unfold spansOf; rw [List.length_map, List.length_range]; omega), ?_⟩
        refine ⟨_, rfl, fun b o e => ?_, ?_⟩
        · rw [upd_ne (ne_of_none e hl)]
          exact s1 b o e
        · rw [upd_same, spans_succ (n := i + 1), List.map_append, Int.pow_succ]
          rfl
    · rintro σ Hi ⟨x, rfl, s1, hi1⟩
      rw [show ((n : Int) - 1).toNat + 1 = n by omega] at hi1
      exact ⟨_, rfl, k Hi l hl s1 hi1⟩
def spWheelsInit (c : Cl) (Bad : Addr) : Sp := fun vs H Q E => ∃ (p dx : Addr) (S n : Int), vs = [.ref p, .int S, .int n] ∧ Lg S ∧ Lg n ∧ H p = some (.ins c.Wheels dx []) ∧ (¬ GoodW S n → E (.ref Bad) none H) ∧
  (GoodW S n → ∀ (H' : Hp) (tp : Addr), H tp = none → H' p = some (.ins c.Wheels dx (wheelsF S tp)) → H' tp = some (.tup ((spansOf S n.toNat).map V.int)) → (∀ b o, H b = some o → b ≠ p → H' b = some o) → Q .non H')
theorem sc_Wheels_init : FnScope ["self", "slots", "levels"] ["self", "slots", "levels"] (defScope s_Wheels___init__) := ⟨rfl, rfl, rfl, by decide +kernel, rfl, by decide +kernel, by decide +kernel⟩
theorem ok_Wheels_init (T : Txt K mg a) : FnOk P w K mg base (CXe P w) 2 a.f_Wheels___init__ a.fd_Wheels___init__ ["self", "slots", "levels"] (spWheelsInit (clOf a) a.C_BadWheels) := by
  have G_check_wheels : FnOk P w K mg base (CXe P w) 1 a.f_check_wheels a.fd_check_wheels ["slots", "levels"] (spCheckWheels a.C_BadWheels) := ok_check_wheels T
  have G_slot_spans : FnOk P w K mg base (CXe P w) 1 a.f_slot_spans a.fd_slot_spans ["slots", "levels"] spSlotSpans := ok_slot_spans T
  refine T.F_Wheels___init__.okE sc_Wheels_init (fun vs H Q E h => ?_) (fun cdv A' outer s H vs Q E hr h => ?_)
  · obtain ⟨p, dx, S, n, rfl, _⟩ := h
    rfl
  · obtain ⟨p, dx, S, n, rfl, l1, l2, hp, k0, k1⟩ := h
    refine ⟨_, (pss_cons (ps_expr (pe_call G_check_wheels (hr.mono (by decide)) rfl T.f_check_wheels T.kp_check_wheels T.B_check_wheels .nil passE (pa_cons (pv 1) (pa_cons (pv 2) pa_nil))))
      (pss_cons (ps_fld (pv 0) (pv 1) rfl)
      (pss_one (ps_fld (pv 0) (pe_callTy call_tuple_of rfl T.b_tuple PyProof.Rows.boot_tuple (pa_cons (pe_call G_slot_spans (hr.mono (by decide)) rfl T.f_slot_spans T.kp_slot_spans T.B_slot_spans .nil passN (pa_cons (pv 1) (pa_cons (pv 2) pa_nil))) pa_nil)) rfl)))), ?_⟩
    refine ⟨_, rfl, _, rfl, S, n, rfl, l1, l2, k0, fun g => ?_⟩
    obtain ⟨⟨g1, g2⟩, g3, g4⟩ := id g
    refine ⟨_, rfl, _, rfl, p, _, dx, [], rfl, hp, T.cl_Wheels, T.n_Wheels_slots, (by show 0 < 1000; decide), ?_⟩
    have en : ((n.toNat : Nat) : Int) = n := by omega
    refine ⟨_, rfl, _, rfl, S, n.toNat, (by rw [en]; rfl), g1, g2, by omega, by omega, fun H1 l hl s1 hl1 => ?_⟩
    have npl : p ≠ l := fun z => by rw [← z, upd_same] at hl; cases hl
    have hp1 := s1 p _ upd_same
    refine ⟨_, _, rfl, .inl ⟨SqL.of hl1, fun tp htp => ?_⟩⟩
    have htp0 : H tp = none := by
      have q : (upd H p (.ins a.C_Wheels dx (putF "slots" (.int S) []))) tp = none := s1.free htp
      rw [upd_ne (fun z => by rw [z, upd_same] at q; cases q)] at q
      exact q
    have npt : p ≠ tp := fun z => by rw [← z, hp1] at htp; cases htp
    refine ⟨_, rfl, p, _, dx, _, rfl, (by rw [upd_ne npt]; exact hp1), T.cl_Wheels, T.n_Wheels_spans, (by show 1 < 1000; decide), ?_⟩
    refine k1 g _ tp htp0 upd_same ?_ fun b o e hb => ?_
    · rw [upd_ne npt.symm, upd_same]
    · rw [upd_ne hb, upd_ne (fun z => by rw [z, htp0] at e; cases e)]
      exact s1 b o (by rw [upd_ne hb]; exact e)
end
end Tk
end
section
namespace Tb
open PySem L2 Mir Rk
/-- some labelled objects, while a book is made -/
structure Pt (ad : Lb → Addr) (H0 H : Hp) (ct : Lb → Option HO) : Prop where
  same : Same H0 H
  free : ∀ l o, ct l = some o → H0 (ad l) = none
  here : ∀ l o, ct l = some o → H (ad l) = some o
  inj : ∀ l l' o o', ct l = some o → ct l' = some o' → ad l = ad l' → l = l'
def lput {α : Type} (f : Lb → α) (l : Lb) (x : α) : Lb → α := fun l' => if l' = l then x else f l'
theorem lput_same {α : Type} {f : Lb → α} {l : Lb} {x : α} : lput f l x l = x := by simp [lput]
theorem lput_ne {α : Type} {f : Lb → α} {l l' : Lb} {x : α} (h : l' ≠ l) : lput f l x l' = f l' := by simp [lput, h]
section
variable {ad : Lb → Addr} {H0 H H' : Hp} {ct : Lb → Option HO}
theorem Pt.nil (s : Same H0 H) : Pt ad H0 H (fun _ => none) := ⟨s, (fun _ _ h => by cases h), (fun _ _ h => by cases h), (fun _ _ _ _ h => by cases h)⟩
theorem Pt.up (p : Pt ad H0 H ct) (s : Same H H') : Pt ad H0 H' ct := ⟨p.same.trans s, p.free, fun l o h => s _ _ (p.here l o h), p.inj⟩
/-- a label more: x stands in the new heap, was not tracked in the old one -/
theorem Pt.add (p : Pt ad H0 H ct) {l : Lb} {x : Addr} {o : HO} (hl : ct l = none) (hx : H x = none) (s : Same H H') (ho : H' x = some o) : Pt (lput ad l x) H0 H' (lput ct l (some o)) := by
  have ne : ∀ l' u, ct l' = some u → l' ≠ l := fun l' u h z => by rw [z, hl] at h; cases h
  have nx : ∀ l' u, ct l' = some u → ad l' ≠ x := fun l' u h z => by have := p.here l' u h; rw [z, hx] at this; cases this
  refine ⟨p.same.trans s, fun l' u h => ?_, fun l' u h => ?_, fun l1 l2 o1 o2 h1 h2 z => ?_⟩
  · by_cases e : l' = l
    · subst e
      rw [lput_same]
      exact p.same.free hx
    · rw [lput_ne e] at h ⊢
      exact p.free l' u h
  · by_cases e : l' = l
    · subst e
      rw [lput_same] at h ⊢
      cases h
      exact ho
    · rw [lput_ne e] at h ⊢
      exact s _ _ (p.here l' u h)
  · by_cases e1 : l1 = l
    · by_cases e2 : l2 = l
      · rw [e1, e2]
      · subst e1
        rw [lput_ne e2] at h2
        rw [lput_same, lput_ne e2] at z
        exact (nx l2 o2 h2 z.symm).elim
    · rw [lput_ne e1] at h1 z
      by_cases e2 : l2 = l
      · subst e2
        rw [lput_same] at z
        exact (nx l1 o1 h1 z).elim
      · rw [lput_ne e2] at h2 z
        exact p.inj l1 l2 o1 o2 h1 h2 z
theorem Pt.write (p : Pt ad H0 H ct) {l : Lb} {o o' : HO} (hl : ct l = some o) : Pt ad H0 (upd H (ad l) o') (lput ct l (some o')) := by
  have back : ∀ l' u, lput ct l (some o') l' = some u → ∃ v, ct l' = some v := fun l' u h => by
    by_cases e : l' = l
    · exact ⟨o, e ▸ hl⟩
    · rw [lput_ne e] at h; exact ⟨u, h⟩
  refine ⟨fun x u h => ?_, fun l' u h => ?_, fun l' u h => ?_, fun l1 l2 o1 o2 h1 h2 z => ?_⟩
  · have := p.free l o hl
    rw [upd_ne (fun z => by rw [z, this] at h; cases h)]
    exact p.same x u h
  · obtain ⟨v, hv⟩ := back l' u h
    exact p.free l' v hv
  · by_cases e : l' = l
    · subst e
      rw [lput_same] at h
      cases h
      exact upd_same
    · rw [lput_ne e] at h
      rw [upd_ne (fun z => e (p.inj l' l u o h hl z))]
      exact p.here l' u h
  · obtain ⟨v1, hv1⟩ := back l1 o1 h1
    obtain ⟨v2, hv2⟩ := back l2 o2 h2
    exact p.inj l1 l2 v1 v2 hv1 hv2 z
theorem Pt.own {x : Addr} {o : HO} (s : Same H0 H) (h0 : H0 x = none) (hx : H x = some o) (l : Lb) : Pt (fun _ => x) H0 H (lput (fun _ => none) l (some o)) := by
  have at_ : ∀ l' u, lput (fun _ => none) l (some o) l' = some u → l' = l ∧ u = o := fun l' u h => by
    by_cases e : l' = l
    · subst e
      rw [lput_same] at h
      cases h
      exact ⟨rfl, rfl⟩
    · rw [lput_ne e] at h
      cases h
  refine ⟨s, fun _ _ _ => h0, fun l' u h => ?_, fun l1 l2 o1 o2 h1 h2 _ => ?_⟩
  · obtain ⟨_, rfl⟩ := at_ l' u h
    exact hx
  · rw [(at_ l1 o1 h1).1, (at_ l2 o2 h2).1]
/-- an object that stands there already -/
theorem Pt.adopt {x : Addr} {o : HO} (p : Pt ad (upd H0 x o) H ct) {l : Lb} (h0 : H0 x = none) (hl : ct l = none) : Pt (lput ad l x) H0 H (lput ct l (some o)) := by
  have nx : ∀ l' u, ct l' = some u → ad l' ≠ x := fun l' u h z => by have := p.free l' u h; rw [z, upd_same] at this; cases this
  refine ⟨(Same.upd h0).trans p.same, fun l' u h => ?_, fun l' u h => ?_, fun l1 l2 o1 o2 h1 h2 z => ?_⟩
  · by_cases e : l' = l
    · subst e
      rw [lput_same]
      exact h0
    · rw [lput_ne e] at h ⊢
      have := p.free l' u h
      rw [upd_ne (nx l' u h)] at this
      exact this
  · by_cases e : l' = l
    · subst e
      rw [lput_same] at h ⊢
      cases h
      exact p.same _ _ upd_same
    · rw [lput_ne e] at h ⊢
      exact p.here l' u h
  · by_cases e1 : l1 = l
    · by_cases e2 : l2 = l
      · rw [e1, e2]
      · subst e1
        rw [lput_ne e2] at h2
        rw [lput_same, lput_ne e2] at z
        exact (nx l2 o2 h2 z.symm).elim
    · rw [lput_ne e1] at h1 z
      by_cases e2 : l2 = l
      · subst e2
        rw [lput_same] at z
        exact (nx l1 o1 h1 z).elim
      · rw [lput_ne e2] at h2 z
        exact p.inj l1 l2 o1 o2 h1 h2 z
theorem Pt.congr {ct' : Lb → Option HO} (p : Pt ad H0 H ct) (h : ∀ l, ct l = ct' l) : Pt ad H0 H ct' := by
  have : ct = ct' := funext h
  exact this ▸ p
/-- something else is written -/
theorem Pt.side (p : Pt ad H0 H ct) {x : Addr} {o : HO} (h0 : H0 x = none) (hx : ∀ l u, ct l = some u → ad l ≠ x) : Pt ad H0 (upd H x o) ct :=
  ⟨fun y u h => by rw [upd_ne (ne_of_none h h0)]; exact p.same y u h, p.free, fun l u h => by rw [upd_ne (hx l u h)]; exact p.here l u h, p.inj⟩
def ctRk (c : Cl) (ad dx : Lb → Addr) (F : List (Str × V)) (S : Int) (sp : List Int) (m : Nat) (rl : Bool) : Lb → Option HO
  | .rack => some (.ins c.Rack (dx .rack) F)
  | .wheels => some (.ins c.Wheels (dx .wheels) (wheelsF S (ad .spans)))
  | .spans => some (.tup (sp.map V.int))
  | .row i => if i < m then some (.ins c.Row (dx (.row i)) (rowF (S ^ i) (ad (.filled i)) (ad (.rising i)))) else none
  | .filled i => if i < m then some (.dK []) else none
  | .rising i => if i < m then some (.lst []) else none
  | .rows => if rl = true then some (.lst ((List.range m).map fun i => V.ref (ad (.row i)))) else none
  | _ => none
/-- a row more -/
theorem Pt.addRow {c : Cl} {dx : Lb → Addr} {F : List (Str × V)} {S : Int} {sp : List Int} {m : Nat} (p : Pt ad H0 H (ctRk c ad dx F S sp m false)) {x d df lr : Addr} (hx : H x = none) (hd : d ≠ x) (hdf : H df = none) (hlr : H lr = none) (n1 : df ≠ x) (n2 : lr ≠ x) (n3 : df ≠ lr)
    (s : Same H H') (h1 : H' x = some (.ins c.Row d (rowF (S ^ m) df lr))) (h2 : H' df = some (.dK [])) (h3 : H' lr = some (.lst [])) :
    Pt (lput (lput (lput ad (.row m) x) (.filled m) df) (.rising m) lr) H0 H' (ctRk c (lput (lput (lput ad (.row m) x) (.filled m) df) (.rising m) lr) (lput dx (.row m) d) F S sp (m + 1) false) := by
  have sa : Same H (upd H x (.ins c.Row d (rowF (S ^ m) df lr))) := Same.upd hx
  have hdf1 : (upd H x (.ins c.Row d (rowF (S ^ m) df lr))) df = none := by rw [upd_ne n1]; exact hdf
  have sb := Same.upd (o := .dK []) hdf1
  have hlr1 : (upd (upd H x (.ins c.Row d (rowF (S ^ m) df lr))) df (.dK [])) lr = none := by rw [upd_ne n3.symm, upd_ne n2]; exact hlr
  have sc : Same (upd (upd H x (.ins c.Row d (rowF (S ^ m) df lr))) df (.dK [])) H' := fun y u h => by
    by_cases e1 : y = df
    · subst e1
      rw [upd_same] at h
      cases h
      exact h2
    · rw [upd_ne e1] at h
      by_cases e2 : y = x
      · subst e2
        rw [upd_same] at h
        cases h
        exact h1
      · rw [upd_ne e2] at h
        exact s y u h
  have q1 := p.add (l := .row m) (x := x) (by show (if m < m then _ else _) = _; rw [if_neg (Nat.lt_irrefl _)]) hx sa upd_same
  have q2 := q1.add (l := .filled m) (x := df) (by rw [lput_ne (by intro z; cases z)]; show (if m < m then _ else _) = _; rw [if_neg (Nat.lt_irrefl _)]) hdf1 sb upd_same
  have q3 := q2.add (l := .rising m) (x := lr) (by rw [lput_ne (by intro z; cases z), lput_ne (by intro z; cases z)]; show (if m < m then _ else _) = _; rw [if_neg (Nat.lt_irrefl _)]) hlr1 sc h3
  refine q3.congr fun l => ?_
  cases l with
  | row i =>
    rw [lput_ne (by intro z; cases z), lput_ne (by intro z; cases z)]
    by_cases e : i = m
    · subst e
      rw [lput_same]
      show _ = if i < i + 1 then _ else _
      rw [if_pos (Nat.lt_succ_self _), lput_same, lput_ne (by intro z; cases z), lput_same, lput_same]
    · have e1 : Lb.row i ≠ .row m := fun z => e (by injection z)
      rw [lput_ne e1]
      show (if i < m then _ else _) = if i < m + 1 then _ else _
      by_cases hi : i < m
      · have f1 : Lb.filled i ≠ .filled m := fun z => e (by injection z)
        have f2 : Lb.rising i ≠ .rising m := fun z => e (by injection z)
        rw [if_pos hi, if_pos (Nat.lt_succ_of_lt hi), lput_ne e1, lput_ne (by intro z; cases z), lput_ne f1, lput_ne (by intro z; cases z), lput_ne f2, lput_ne (by intro z; cases z), lput_ne (by intro z; cases z)]
      · rw [if_neg hi, if_neg (by omega)]
  | filled i =>
    rw [lput_ne (by intro z; cases z)]
    by_cases e : i = m
    · subst e
      rw [lput_same]
      show _ = if i < i + 1 then _ else _
      rw [if_pos (Nat.lt_succ_self _)]
    · have e1 : Lb.filled i ≠ .filled m := fun z => e (by injection z)
      rw [lput_ne e1, lput_ne (by intro z; cases z)]
      show (if i < m then _ else _) = if i < m + 1 then _ else _
      by_cases hi : i < m
      · rw [if_pos hi, if_pos (Nat.lt_succ_of_lt hi)]
      · rw [if_neg hi, if_neg (by omega)]
  | rising i =>
    by_cases e : i = m
    · subst e
      rw [lput_same]
      show _ = if i < i + 1 then _ else _
      rw [if_pos (Nat.lt_succ_self _)]
    · have e1 : Lb.rising i ≠ .rising m := fun z => e (by injection z)
      rw [lput_ne e1, lput_ne (by intro z; cases z), lput_ne (by intro z; cases z)]
      show (if i < m then _ else _) = if i < m + 1 then _ else _
      by_cases hi : i < m
      · rw [if_pos hi, if_pos (Nat.lt_succ_of_lt hi)]
      · rw [if_neg hi, if_neg (by omega)]
  | rack =>
    rw [lput_ne (by intro z; cases z), lput_ne (by intro z; cases z), lput_ne (by intro z; cases z)]
    show some (HO.ins c.Rack (dx .rack) F) = some (HO.ins c.Rack (lput dx (.row m) d .rack) F)
    rw [lput_ne (by intro z; cases z)]
  | wheels =>
    rw [lput_ne (by intro z; cases z), lput_ne (by intro z; cases z), lput_ne (by intro z; cases z)]
    show some (HO.ins c.Wheels (dx .wheels) (wheelsF S (ad .spans))) = some (HO.ins c.Wheels (lput dx (.row m) d .wheels) (wheelsF S (lput (lput (lput ad (.row m) x) (.filled m) df) (.rising m) lr .spans)))
    rw [lput_ne (by intro z; cases z), lput_ne (by intro z; cases z), lput_ne (by intro z; cases z), lput_ne (by intro z; cases z)]
  | spans => rfl
  | rows => rfl
  | book => rfl
  | names => rfl
  | steps => rfl
  | ticks => rfl
  | kept => rfl
  | slot i s => rfl
end
end Tb
end
section
namespace Tk
open PySem L2 Mir Rk Tb
open PyProof.Rows (boot_sorted boot_min boot_enumerate boot_isinstance)
section
variable {P : Program} {w : World} {K : PySem.W.Frag} {mg : Str → Option Value} {base : Heap} {a : Ad}
def spRackInit (c : Cl) (Bad : Addr) : Sp := fun vs H Q E => ∃ (H0 : Hp) (p dxp : Addr) (S n : Int), vs = [.ref p, .int S, .int n] ∧ Lg S ∧ Lg n ∧ Same H0 H ∧ H0 p = none ∧ H p = some (.ins c.Rack dxp []) ∧ (¬ GoodW S n → ∀ H', Same H0 H' → E (.ref Bad) none H') ∧
  (GoodW S n → ∀ (H' : Hp) (ad dx : Lb → Addr), ad .rack = p → Pt ad H0 H' (ctRk c ad dx (rackF (ad .wheels) (ad .rows)) S (spansOf S n.toNat) (n.toNat + 1) true) → Q .non H')
theorem sc_Rack_init : FnScope ["self", "slots", "levels", "spans"] ["self", "slots", "levels"] (defScope s_Rack___init__) := ⟨rfl, rfl, rfl, by decide +kernel, rfl, by decide +kernel, by decide +kernel⟩
theorem ok_Rack_init (T : Txt K mg a) : FnOk P w K mg base (CXe P w) 4 a.f_Rack___init__ a.fd_Rack___init__ ["self", "slots", "levels"] (spRackInit (clOf a) a.C_BadWheels) := by
  have G_Wheels : FnOk P w K mg base (CXe P w) 2 a.f_Wheels___init__ a.fd_Wheels___init__ ["self", "slots", "levels"] (spWheelsInit (clOf a) a.C_BadWheels) := ok_Wheels_init T
  have G_Row : FnOk P w K mg base (CXe P w) 1 a.f_Row___init__ a.fd_Row___init__ ["self", "span"] (spRowInit (clOf a)) := ok_Row_init T
  refine T.F_Rack___init__.okE sc_Rack_init (fun vs H Q E h => ?_) (fun cdv A' outer s H vs Q E hr h => ?_)
  · obtain ⟨H0, p, dxp, S, n, rfl, _⟩ := h
    rfl
  · obtain ⟨H0, p, dxp, S, n, rfl, l1, l2, s0, h0, hp, k0, k1⟩ := h
    refine ⟨_, (pss_cons (ps_fld (pv 0) (pe_make T.M_Wheels G_Wheels (hr.mono (by decide)) rfl T.c_Wheels T.B_Wheels___init__ .nil passE (pa_cons (pv 1) (pa_cons (pv 2) pa_nil))) rfl)
      (pss_cons (ps_set (i := 3) sc_Rack_init.nd rfl (Or.inl rfl) (pe_callTy call_list_of rfl T.b_list PyProof.Rows.boot_list (pa_cons (pe_fld (pe_fld (pv 0) rfl) rfl) pa_nil)))
      (pss_cons (ps_expr (pe_bm PySem.F.plainAttrs_list PySem.F.slot_list_append PySem.F.type_list_append mt_append (pv 3) (pa_cons (pe_op op_mul (pe_ix ix_list (pv 3) (pe_op op_sub (pv 2) pe_int) (fun _ _ => rfl)) (pv 1)) pa_nil)))
      (pss_one (ps_fld (pv 0) (pe_compA (te := tMake a.C_Row (spRowInit (clOf a)) [] E0 (tCons (tVar 0) tNil)) (NB := ["span"]) (fv := [none]) (jx := 0) rfl (compOk_fnE rfl rfl (by decide +kernel)) (pi_list (pv 3)) rfl rfl rfl (fun _ _ _ => pifs_nil) (fun _ _ _ => pe_make T.M_Row G_Row (hr.mono (by decide)) rfl T.c_Row T.B_Row___init__ .nil passN (pa_cons (pv 0) pa_nil))) rfl))))), ?_⟩
    refine ⟨_, rfl, _, rfl, fun x dx' hx hdx nx => ?_⟩
    have sA : Same H (upd (upd H dx' (.own x)) x (.ins a.C_Wheels dx' [])) := fun b o e => by
      rw [upd_ne (ne_of_none e hx), upd_ne (ne_of_none e hdx)]
      exact e
    refine ⟨x, dx', S, n, rfl, l1, l2, upd_same, fun hb => k0 hb _ (s0.trans sA), fun g H1 tp htp e1 e2 e3 => ⟨rfl, ?_⟩⟩
    obtain ⟨⟨g1, g2⟩, g3, g4⟩ := id g
    have s1 : Same H H1 := fun b o e => e3 b o (sA b o e) (ne_of_none e hx)
    have htpx : tp ≠ x := fun z => by rw [z, upd_same] at htp; cases htp
    have htp0 : H tp = none := sA.free htp
    have en : ((n.toNat : Nat) : Int) = n := by omega
    -- the wheels
    have P0 := Pt.own s0 h0 hp .rack
    have P1 := P0.add (l := .wheels) (x := x) (o := .ins a.C_Wheels dx' (wheelsF S tp)) (lput_ne (by intro z; cases z)) hx (Same.upd hx) upd_same
    have P2 := P1.add (H' := H1) (l := .spans) (x := tp) (o := .tup ((spansOf S n.toNat).map V.int)) (by rw [lput_ne (by intro z; cases z), lput_ne (by intro z; cases z)]) (by rw [upd_ne htpx]; exact htp0) (fun y u h => by
      by_cases e : y = x
      · subst e
        rw [upd_same] at h
        cases h
        exact e1
      · rw [upd_ne e] at h
        exact s1 y u h) e2
    have hp1 : H1 p = some (.ins a.C_Rack dxp []) := s1 _ _ hp
    refine ⟨_, rfl, p, _, dxp, _, rfl, hp1, T.cl_Rack, T.n_Rack_wheels, (by show 0 < 1000; decide), ?_⟩
    have P3 := P2.write (l := .rack) (o := .ins a.C_Rack dxp []) (o' := .ins a.C_Rack dxp [("wheels", .ref x)]) (by rw [lput_ne (by intro z; cases z), lput_ne (by intro z; cases z), lput_same])
    have P3' : Pt (lput (lput (fun _ => p) .wheels x) .spans tp) H0 (upd H1 p (.ins a.C_Rack dxp [("wheels", .ref x)])) (ctRk (clOf a) (lput (lput (fun _ => p) .wheels x) .spans tp) (lput (fun _ => dx') .rack dxp) [("wheels", .ref x)] S (spansOf S n.toNat) 0 false) := by
      refine P3.congr fun l => ?_
      cases l with
      | rack => rfl
      | wheels => rfl
      | spans => rfl
      | row i => rfl
      | filled i => rfl
      | rising i => rfl
      | rows => rfl
      | book => rfl
      | names => rfl
      | steps => rfl
      | ticks => rfl
      | kept => rfl
      | slot i s => rfl
    have hpR := P3'.here .rack _ rfl
    have hpW := P3'.here .wheels _ rfl
    have hpS := P3'.here .spans _ rfl
    refine ⟨_, rfl, _, _, _, _, _, rfl, hpR, T.cl_Rack, T.n_Rack_wheels, rfl, _, _, _, _, _, rfl, hpW, T.cl_Wheels, T.n_Wheels_spans, rfl, _, _, rfl, .inr (SqT.of hpS), fun ls hls => ?_⟩
    have P4 := P3'.up (Same.upd (o := .lst ((spansOf S n.toNat).map V.int)) hls)
    have hn0 : ∀ l u, ctRk (clOf a) (lput (lput (fun _ => p) .wheels x) .spans tp) (lput (fun _ => dx') .rack dxp) [("wheels", .ref x)] S (spansOf S n.toNat) 0 false l = some u → (lput (lput (fun _ => p) .wheels x) .spans tp) l ≠ ls := fun l u h z => by
      have q := P3'.here l u h
      have hls' : upd H1 p (HO.ins a.C_Rack dxp [("wheels", .ref x)]) ls = none := hls
      rw [z, hls'] at q
      cases q
    obtain ⟨p1, p2⟩ := pow_small g1 g2 (i := n.toNat - 1) (by omega)
    refine ⟨_, rfl, .inl ⟨rfl, _, SqL.of upd_same⟩, _, rfl, _, rfl, _, _, rfl, rfl, _, _, _, .int (S ^ (n.toNat - 1)), rfl, rfl, SqL.of upd_same, ?_, _, rfl, _, _, rfl, rfl, .inl ⟨by omega, Int.lt_of_le_of_lt p2 (by decide)⟩, ?_⟩
    · rw [show n - 1 = ((n.toNat - 1 : Nat) : Int) by omega]
      exact atI_nat (by rw [List.getElem?_map, spans_at (by omega)]; rfl)
    · refine ⟨_, _, _, rfl, rfl, upd_same, small100 (by rw [List.length_map]; unfold spansOf; rw [List.length_map, List.length_range]; omega), ?_⟩
      have eL : (spansOf S n.toNat).map V.int ++ [V.int (S ^ (n.toNat - 1) * S)] = (spansOf S (n.toNat + 1)).map V.int := by
        rw [spans_succ, List.map_append, ← Int.pow_succ, show (n.toNat - 1).succ = n.toNat by omega]
        rfl
      rw [show (fun i j => V.int (i * j)) (S ^ (n.toNat - 1)) S = V.int (S ^ (n.toNat - 1) * S) from rfl, eL]
      have hls0 : H0 ls = none := P3'.same.free hls
      have P5 := P4.side (x := ls) (o := .lst ((spansOf S (n.toNat + 1)).map V.int)) hls0 hn0
      have lenS : ((spansOf S (n.toNat + 1)).map V.int).length = n.toNat + 1 := by rw [List.length_map]; unfold spansOf; rw [List.length_map, List.length_range]
      refine ⟨_, rfl, _, rfl, ⟨_, SqL.of upd_same⟩, ?_⟩
      refine comp_list (K := K) (a := ls) (xs := (spansOf S (n.toNat + 1)).map V.int) (fun i ys Hi => ∃ ad dx, ad .rack = p ∧ ad .wheels = x ∧ Pt ad H0 Hi (ctRk (clOf a) ad dx [("wheels", .ref x)] S (spansOf S n.toNat) i false) ∧ ys = (List.range i).map (fun j => V.ref (ad (.row j))) ∧ Hi ls = some (.lst ((spansOf S (n.toNat + 1)).map V.int)))
        ⟨_, _, rfl, rfl, P5, rfl, upd_same⟩ (fun i ys Hi hi ⟨ad, dx, _, _, _, ey, hl⟩ => ⟨SqL.of hl, by rw [ey, List.length_map, List.length_range]; exact small100 (by omega)⟩) ?_ ?_
      · rintro i v ys Hi Q' hv ⟨ad, dx, ea1, ea2, Pi, rfl, hl⟩ kq
        have hi : i < n.toNat + 1 := by have := (List.getElem?_eq_some_iff.mp hv).1; omega
        have ev : v = V.int (S ^ i) := by
          rw [List.getElem?_map, spans_at hi] at hv
          exact (Option.some.inj hv).symm
        subst ev
        refine ⟨_, rfl, fun xr dr hxr hdr nr => ⟨xr, dr, S ^ i, rfl, upd_same, fun df lr H2 hdf hlr nfl f1 f2 f3 f4 => ⟨rfl, kq _ _ ?_⟩⟩⟩
        have sB : Same Hi (upd (upd Hi dr (.own xr)) xr (.ins a.C_Row dr [])) := fun b o e => by
          rw [upd_ne (ne_of_none e hxr), upd_ne (ne_of_none e hdr)]
          exact e
        have s2 : Same Hi H2 := fun b o e => f4 b o (sB b o e) (ne_of_none e hxr)
        have ndf : df ≠ xr := fun z => by rw [z, upd_same] at hdf; cases hdf
        have nlr : lr ≠ xr := fun z => by rw [z, upd_same] at hlr; cases hlr
        have P6 := Pi.addRow hxr nr (sB.free hdf) (sB.free hlr) ndf nlr nfl s2 f1 f2 f3
        refine ⟨_, _, ?_, ?_, P6, ?_, s2 _ _ hl⟩
        · rw [lput_ne (by intro z; cases z), lput_ne (by intro z; cases z), lput_ne (by intro z; cases z)]; exact ea1
        · rw [lput_ne (by intro z; cases z), lput_ne (by intro z; cases z), lput_ne (by intro z; cases z)]; exact ea2
        · rw [List.range_succ, List.map_append]
          congr 1
          · apply List.map_congr_left
            intro j hj
            have hj' := List.mem_range.mp hj
            have e1 : Lb.row j ≠ .row i := fun z => by injection z with z; omega
            rw [lput_ne (by intro z; cases z), lput_ne (by intro z; cases z), lput_ne e1]
          · show [V.ref xr] = [V.ref _]
            rw [lput_ne (by intro z; cases z), lput_ne (by intro z; cases z), lput_same]
      · rintro ys Hi ⟨ad, dx, ea1, ea2, Pi, rfl, hl⟩ acc hacc
        rw [lenS] at Pi ⊢
        have P7 := Pi.add (l := .rows) (x := acc) (o := .lst ((List.range (n.toNat + 1)).map (fun j => V.ref (ad (.row j))))) rfl hacc (Same.upd hacc) upd_same
        have hr7 := P7.here .rack _ (by rw [lput_ne (by intro z; cases z)]; rfl)
        rw [lput_ne (by intro z; cases z), ea1] at hr7
        refine ⟨_, rfl, p, _, _, _, rfl, hr7, T.cl_Rack, T.n_Rack_rows, (by show 1 < 1000; decide), ?_⟩
        have P8 := P7.write (l := .rack) (o' := .ins a.C_Rack (dx .rack) (rackF x acc)) (by rw [lput_ne (by intro z; cases z)]; rfl)
        refine k1 g _ (lput ad .rows acc) dx (by rw [lput_ne (by intro z; cases z)]; exact ea1) ?_
        rw [lput_ne (by intro z; cases z), ea1] at P8
        refine P8.congr fun l => ?_
        cases l with
        | rack =>
          rw [lput_same]
          show _ = some (HO.ins a.C_Rack (dx .rack) (rackF (lput ad .rows acc .wheels) (lput ad .rows acc .rows)))
          rw [lput_ne (by intro z; cases z), lput_same, ea2]
        | wheels =>
          rw [lput_ne (by intro z; cases z), lput_ne (by intro z; cases z)]
          show some (HO.ins a.C_Wheels (dx .wheels) (wheelsF S (ad .spans))) = some (HO.ins a.C_Wheels (dx .wheels) (wheelsF S (lput ad .rows acc .spans)))
          rw [lput_ne (by intro z; cases z)]
        | spans => rfl
        | row i =>
          rw [lput_ne (by intro z; cases z), lput_ne (by intro z; cases z)]
          show (if i < _ then _ else _) = if i < _ then some (HO.ins a.C_Row (dx (.row i)) (rowF (S ^ i) (lput ad .rows acc (.filled i)) (lput ad .rows acc (.rising i)))) else none
          rw [lput_ne (by intro z; cases z), lput_ne (by intro z; cases z)]
        | filled i => rfl
        | rising i => rfl
        | rows =>
          rw [lput_ne (by intro z; cases z), lput_same]
          show _ = some (HO.lst ((List.range (n.toNat + 1)).map fun i => V.ref (lput ad .rows acc (.row i))))
          congr 2
        | book => rfl
        | names => rfl
        | steps => rfl
        | ticks => rfl
        | kept => rfl
        | slot i s => rfl
end
end Tk
end
section
namespace Tk
open PySem L2 Mir Rk Tb
open PyProof.Rows (boot_sorted boot_min boot_enumerate boot_isinstance)
/-- a new book -/
def newB (S : Int) (n : Nat) : BkS := ⟨S, spansOf S n, (List.range (n + 1)).map fun i => ⟨S ^ i, [], []⟩, 0, 0, [], [], [], []⟩
theorem newB_row {S : Int} {n i : Nat} : (newB S n).rows[i]? = if i < n + 1 then some ⟨S ^ i, [], []⟩ else none := by
  show ((List.range (n + 1)).map fun i => (⟨S ^ i, [], []⟩ : RowS))[i]? = _
  rw [List.getElem?_map]
  by_cases h : i < n + 1
  · rw [List.getElem?_range h, if_pos h]
    rfl
  · rw [if_neg h, List.getElem?_eq_none (by rw [List.length_range]; omega)]
    rfl
theorem newB_ok {S : Int} {n : Nat} (h1 : 2 ≤ S) (h2 : S ≤ 64) (h3 : 1 ≤ n) (h4 : n ≤ 6) : BOK S n (newB S n) where
  geo := ⟨h1, h2, h3, h4, rfl, rfl, by show ((List.range (n + 1)).map _).length = _; rw [List.length_map, List.length_range]⟩
  rack := by
    have at_ : ∀ (i : Nat) r, (newB S n).rows[i]? = some r → r = ⟨S ^ i, [], []⟩ := fun i r e => by
      rw [newB_row] at e
      by_cases h : i < n + 1
      · rw [if_pos h] at e; exact (Option.some.inj e).symm
      · rw [if_neg h] at e; cases e
    refine ⟨h1, by show ((List.range (n + 1)).map _).length = _; rw [List.length_map, List.length_range], fun i r e => by rw [at_ i r e], fun i r e => ?_, (fun k t e => by cases e), (fun k t e => by cases e)⟩
    rw [at_ i r e]
    refine ⟨Rk.pow_pos (by omega) i, List.nodup_nil, List.Pairwise.nil, (fun s => ⟨(fun h => by simp at h), (fun h => by cases h)⟩), (fun s ns h => by cases h), (fun s ns h => by cases h), (fun m s => ⟨(fun ⟨ns, h, _⟩ => by cases h), (fun ⟨t, h, _⟩ => by cases h)⟩)⟩
  out := ⟨List.nodup_nil, List.nodup_nil, List.nodup_nil, List.nodup_nil, ⟨Int.le_refl _, by show (0 : Int) ≤ 63; decide⟩, (fun k h => by cases h), (fun k => rfl), (fun k => rfl), (fun k s h => by cases h), (fun k h => by cases h), (fun k t h => by cases h)⟩
  nn := Int.le_refl _
theorem bk_of {c : Cl} {ad dx : Lb → Addr} {sl : Sl} {H0 H : Hp} {B : BkS} (p : Pt ad H0 H (cont c ⟨ad, dx⟩ sl B)) (hs : ∀ i s, cont c ⟨ad, dx⟩ sl B (.slot i s) = none) : Bk c ⟨ad, dx⟩ sl H0 H B := by
  have e : ∀ l o, cont c ⟨ad, dx⟩ sl B l = some o → loc ⟨ad, dx⟩ sl l = ad l := fun l o h => by
    cases l with
    | slot i s => rw [hs i s] at h; cases h
    | _ => rfl
  exact ⟨p.same, fun l o h => by rw [e l o h]; exact p.free l o h, fun l o h => by rw [e l o h]; exact p.here l o h, fun l1 l2 o1 o2 h1 h2 z => by rw [e l1 o1 h1, e l2 o2 h2] at z; exact p.inj l1 l2 o1 o2 h1 h2 z⟩
section
variable {P : Program} {w : World} {K : PySem.W.Frag} {mg : Str → Option Value} {base : Heap} {a : Ad}
abbrev newV (S : Int) (n : Nat) : Vw := ⟨S, n, 0, 0, fun _ => none, fun _ => none⟩
def spBookInit (c : Cl) (Bad : Addr) : Sp := fun vs H Q E => ∃ (H0 : Hp) (p dxp : Addr) (S n : Int), vs = [.ref p, .int S, .int n] ∧ Lg S ∧ Lg n ∧ Same H0 H ∧ H0 p = none ∧ H p = some (.ins c.Book dxp []) ∧ (¬ GoodW S n → ∀ H', Same H0 H' → E (.ref Bad) none H') ∧
  (GoodW S n → ∀ (H' : Hp), BookAt c H0 H' p (newV S n.toNat) → Q .non H')
theorem sc_Book_init : FnScope ["self", "slots", "levels"] ["self", "slots", "levels"] (defScope s_Book___init__) := ⟨rfl, rfl, rfl, by decide +kernel, rfl, by decide +kernel, by decide +kernel⟩
theorem ok_Book_init (T : Txt K mg a) : FnOk P w K mg base (CXe P w) 6 a.f_Book___init__ a.fd_Book___init__ ["self", "slots", "levels"] (spBookInit (clOf a) a.C_BadWheels) := by
  have G_Rack : FnOk P w K mg base (CXe P w) 4 a.f_Rack___init__ a.fd_Rack___init__ ["self", "slots", "levels"] (spRackInit (clOf a) a.C_BadWheels) := ok_Rack_init T
  refine T.F_Book___init__.okE sc_Book_init (fun vs H Q E h => ?_) (fun cdv A' outer s H vs Q E hr h => ?_)
  · obtain ⟨H0, p, dxp, S, n, rfl, _⟩ := h
    rfl
  · obtain ⟨H0, p, dxp, S, n, rfl, l1, l2, s0, h0, hp, k0, k1⟩ := h
    refine ⟨_, (pss_cons (ps_fld (pv 0) (pe_make T.M_Rack G_Rack (hr.mono (by decide)) rfl T.c_Rack T.B_Rack___init__ .nil passE (pa_cons (pv 1) (pa_cons (pv 2) pa_nil))) rfl)
      (pss_cons (ps_fld (pv 0) pe_int rfl)
      (pss_cons (ps_fld (pv 0) pe_int rfl)
      (pss_cons (ps_fld (pv 0) pe_dnewK rfl)
      (pss_cons (ps_fld (pv 0) pe_dnewK rfl)
      (pss_cons (ps_fld (pv 0) pe_dnewK rfl)
      (pss_one (ps_fld (pv 0) pe_dnewK rfl)))))))), ?_⟩
    refine ⟨_, rfl, _, rfl, fun x dx' hx hdx nx => ?_⟩
    have nxp : x ≠ p := fun z => by rw [z, hp] at hx; cases hx
    have sP : Same (upd H0 p (.ins a.C_Book dxp [])) H := fun b o e => by
      by_cases z : b = p
      · subst z
        rw [upd_same] at e
        cases e
        exact hp
      · rw [upd_ne z] at e
        exact s0 b o e
    have sA : Same H (upd (upd H dx' (.own x)) x (.ins a.C_Rack dx' [])) := fun b o e => by
      rw [upd_ne (ne_of_none e hx), upd_ne (ne_of_none e hdx)]
      exact e
    refine ⟨upd H0 p (.ins a.C_Book dxp []), x, dx', S, n, rfl, l1, l2, sP.trans sA, (by rw [upd_ne nxp]; exact s0.free hx), upd_same, fun hb H' sH => k0 hb H' ((Same.upd h0).trans sH), fun g H1 ad dx ea P0 => ⟨rfl, ?_⟩⟩
    obtain ⟨⟨g1, g2⟩, g3, g4⟩ := id g
    have P1 := P0.adopt (l := .book) h0 rfl
    have hb1 := P1.here .book _ lput_same
    rw [lput_same] at hb1
    refine ⟨_, rfl, p, _, _, _, rfl, hb1, T.cl_Book, T.n_Book_rack, (by show 0 < 1000; decide), ?_⟩
    have P2 := P1.write (l := .book) (o' := .ins a.C_Book dxp [("rack", .ref x)]) lput_same
    rw [lput_same] at P2
    have hb2 := P2.here .book _ lput_same
    rw [lput_same] at hb2
    refine ⟨_, rfl, p, _, _, _, rfl, hb2, T.cl_Book, T.n_Book_now, (by show 1 < 1000; decide), ?_⟩
    have P3 := P2.write (l := .book) (o' := .ins a.C_Book dxp [("rack", .ref x), ("now", .int 0)]) lput_same
    rw [lput_same] at P3
    have hb3 := P3.here .book _ lput_same
    rw [lput_same] at hb3
    refine ⟨_, rfl, p, _, _, _, rfl, hb3, T.cl_Book, T.n_Book_next_number, (by show 2 < 1000; decide), ?_⟩
    have P4 := P3.write (l := .book) (o' := .ins a.C_Book dxp [("rack", .ref x), ("now", .int 0), ("next_number", .int 0)]) lput_same
    rw [lput_same] at P4
    intro d1 hd1
    have P5 := P4.add (l := .names) (x := d1) (o := .dK []) rfl hd1 (Same.upd hd1) upd_same
    have hb5 := P5.here .book _ (by rw [lput_ne (by intro z; cases z), lput_same])
    rw [lput_ne (by intro z; cases z), lput_same] at hb5
    refine ⟨_, rfl, p, _, _, _, rfl, hb5, T.cl_Book, T.n_Book_names, (by show 3 < 1000; decide), ?_⟩
    have P6 := P5.write (l := .book) (o' := .ins a.C_Book dxp [("rack", .ref x), ("now", .int 0), ("next_number", .int 0), ("names", .ref d1)]) (by rw [lput_ne (by intro z; cases z), lput_same])
    rw [lput_ne (by intro z; cases z), lput_same] at P6
    intro d2 hd2
    have P7 := P6.add (l := .steps) (x := d2) (o := .dK []) rfl hd2 (Same.upd hd2) upd_same
    have hb7 := P7.here .book _ (by rw [lput_ne (by intro z; cases z), lput_same])
    rw [lput_ne (by intro z; cases z), lput_ne (by intro z; cases z), lput_same] at hb7
    refine ⟨_, rfl, p, _, _, _, rfl, hb7, T.cl_Book, T.n_Book_steps, (by show 4 < 1000; decide), ?_⟩
    have P8 := P7.write (l := .book) (o' := .ins a.C_Book dxp [("rack", .ref x), ("now", .int 0), ("next_number", .int 0), ("names", .ref d1), ("steps", .ref d2)]) (by rw [lput_ne (by intro z; cases z), lput_same])
    rw [lput_ne (by intro z; cases z), lput_ne (by intro z; cases z), lput_same] at P8
    intro d3 hd3
    have P9 := P8.add (l := .ticks) (x := d3) (o := .dK []) rfl hd3 (Same.upd hd3) upd_same
    have hb9 := P9.here .book _ (by rw [lput_ne (by intro z; cases z), lput_same])
    rw [lput_ne (by intro z; cases z), lput_ne (by intro z; cases z), lput_ne (by intro z; cases z), lput_same] at hb9
    refine ⟨_, rfl, p, _, _, _, rfl, hb9, T.cl_Book, T.n_Book_ticks, (by show 5 < 1000; decide), ?_⟩
    have P10 := P9.write (l := .book) (o' := .ins a.C_Book dxp [("rack", .ref x), ("now", .int 0), ("next_number", .int 0), ("names", .ref d1), ("steps", .ref d2), ("ticks", .ref d3)]) (by rw [lput_ne (by intro z; cases z), lput_same])
    rw [lput_ne (by intro z; cases z), lput_ne (by intro z; cases z), lput_ne (by intro z; cases z), lput_same] at P10
    intro d4 hd4
    have P11 := P10.add (l := .kept) (x := d4) (o := .dK []) rfl hd4 (Same.upd hd4) upd_same
    have hb11 := P11.here .book _ (by rw [lput_ne (by intro z; cases z), lput_same])
    rw [lput_ne (by intro z; cases z), lput_ne (by intro z; cases z), lput_ne (by intro z; cases z), lput_ne (by intro z; cases z), lput_same] at hb11
    refine ⟨_, rfl, p, _, _, _, rfl, hb11, T.cl_Book, T.n_Book_kept_ticks, (by show 6 < 1000; decide), ?_⟩
    have P12 := P11.write (l := .book) (o' := .ins a.C_Book dxp (bookF x 0 0 d1 d2 d3 d4)) (by rw [lput_ne (by intro z; cases z), lput_same])
    rw [lput_ne (by intro z; cases z), lput_ne (by intro z; cases z), lput_ne (by intro z; cases z), lput_ne (by intro z; cases z), lput_same] at P12
    generalize hAd : lput (lput (lput (lput (lput ad .book p) .names d1) .steps d2) .ticks d3) .kept d4 = AD at P12
    have a1 : AD .book = p := by rw [← hAd]; rfl
    have a2 : AD .rack = x := by rw [← hAd]; exact ea
    have a3 : AD .names = d1 := by rw [← hAd]; rfl
    have a4 : AD .steps = d2 := by rw [← hAd]; rfl
    have a5 : AD .ticks = d3 := by rw [← hAd]; rfl
    have a6 : AD .kept = d4 := by rw [← hAd]; rfl
    have a7 : AD .wheels = ad .wheels := by rw [← hAd]; rfl
    have a8 : AD .rows = ad .rows := by rw [← hAd]; rfl
    have a9 : AD .spans = ad .spans := by rw [← hAd]; rfl
    have a10 : ∀ i, AD (.row i) = ad (.row i) := fun i => by rw [← hAd]; rfl
    have a11 : ∀ i, AD (.filled i) = ad (.filled i) := fun i => by rw [← hAd]; rfl
    have a12 : ∀ i, AD (.rising i) = ad (.rising i) := fun i => by rw [← hAd]; rfl
    have PB : Pt AD H0 _ (cont (clOf a) ⟨AD, lput dx .book dxp⟩ (fun _ _ => 0) (newB S n.toNat)) := P12.congr fun l => by
      cases l with
      | book =>
        rw [lput_same]
        show _ = some (HO.ins a.C_Book _ (bookF (AD .rack) 0 0 (AD .names) (AD .steps) (AD .ticks) (AD .kept)))
        rw [a2, a3, a4, a5, a6]
        rfl
      | rack =>
        show some (HO.ins a.C_Rack (dx .rack) (rackF (ad .wheels) (ad .rows))) = some (HO.ins a.C_Rack (dx .rack) (rackF (AD .wheels) (AD .rows)))
        rw [a7, a8]
      | wheels =>
        show some (HO.ins a.C_Wheels (dx .wheels) (wheelsF S (ad .spans))) = some (HO.ins a.C_Wheels (dx .wheels) (wheelsF S (AD .spans)))
        rw [a9]
      | spans => rfl
      | rows =>
        show some (HO.lst ((List.range (n.toNat + 1)).map fun i => V.ref (ad (.row i)))) = some (HO.lst ((List.range ((List.range (n.toNat + 1)).map _).length).map fun i => V.ref (AD (.row i))))
        rw [List.length_map, List.length_range]
        congr 2
        apply List.map_congr_left
        intro i _
        rw [a10]
      | row i =>
        show (if i < n.toNat + 1 then some (HO.ins a.C_Row (dx (.row i)) (rowF (S ^ i) (ad (.filled i)) (ad (.rising i)))) else none) = (newB S n.toNat).rows[i]?.map fun r => HO.ins a.C_Row (dx (.row i)) (rowF r.span (AD (.filled i)) (AD (.rising i)))
        rw [newB_row, a11, a12]
        by_cases h : i < n.toNat + 1
        · rw [if_pos h, if_pos h]; rfl
        · rw [if_neg h, if_neg h]; rfl
      | filled i =>
        show (if i < n.toNat + 1 then some (HO.dK []) else none) = (newB S n.toNat).rows[i]?.map fun r => HO.dK (fillV (fun _ _ => 0) i r.filled)
        rw [newB_row]
        by_cases h : i < n.toNat + 1
        · rw [if_pos h, if_pos h]; rfl
        · rw [if_neg h, if_neg h]; rfl
      | rising i =>
        show (if i < n.toNat + 1 then some (HO.lst []) else none) = (newB S n.toNat).rows[i]?.map fun r => HO.lst (r.rising.map V.int)
        rw [newB_row]
        by_cases h : i < n.toNat + 1
        · rw [if_pos h, if_pos h]; rfl
        · rw [if_neg h, if_neg h]; rfl
      | names => rfl
      | steps => rfl
      | ticks => rfl
      | kept => rfl
      | slot i s =>
        show none = (newB S n.toNat).rows[i]?.bind fun r => (get r.filled s).map fun ns => HO.dK (numV ns)
        rw [newB_row]
        by_cases h : i < n.toNat + 1
        · rw [if_pos h]; rfl
        · rw [if_neg h]; rfl
    have hsl : ∀ i s, cont (clOf a) ⟨AD, lput dx .book dxp⟩ (fun _ _ => 0) (newB S n.toNat) (.slot i s) = none := fun i s => by
      show ((newB S n.toNat).rows[i]?.bind fun r => (get r.filled s).map fun ns => HO.dK (numV ns)) = none
      rw [newB_row]
      by_cases h : i < n.toNat + 1
      · rw [if_pos h]; rfl
      · rw [if_neg h]; rfl
    have hok := newB_ok (n := n.toNat) g1 g2 (by omega) (by omega)
    exact k1 g _ ⟨⟨AD, lput dx .book dxp⟩, _, newB S n.toNat, a1, bk_of PB hsl, hok, rfl, rfl, rfl, rfl⟩
end
end Tk
end
section
namespace Tk
open PySem L2 Mir Rk Tb
open PyProof.Rows (boot_sorted boot_min boot_enumerate boot_isinstance)
section
variable {P : Program} {w : World} {K : PySem.W.Frag} {mg : Str → Option Value} {base : Heap} {a : Ad}
theorem boot_VE : bootBuiltins "ValueError" = some (.type "ValueError") := by decide +kernel
/-! ### the law's own numbers -/
def spCell (K : PySem.W.Frag) : Sp := fun vs H Q _ => ∃ (l : Addr) (ns : List Int) (k : Int), vs = [.ref l, .int k] ∧ SqL K H l (ns.map V.int) ∧ ∀ x : Int, Q (.int x) H
theorem sc__law_cell : FnScope ["_law_script", "_law_k"] ["_law_script", "_law_k"] (defScope s__law_cell) := ⟨rfl, rfl, rfl, by decide +kernel, rfl, by decide +kernel, by decide +kernel⟩
theorem ok__law_cell (T : Txt K mg a) : FnOk P w K mg base (CXe P w) 1 a.f__law_cell a.fd__law_cell ["_law_script", "_law_k"] (spCell K) := by
  refine T.F__law_cell.okN sc__law_cell (fun vs H Q E h => ?_) (fun cdv A' outer s H vs Q E hr h => ?_)
  · obtain ⟨l, ns, k, rfl, _⟩ := h
    rfl
  · obtain ⟨l, ns, k, rfl, hl, kk⟩ := h
    refine ⟨_, (pss_cons (ps_if (pt_truth (pv 0) (fun _ => rfl)) (pss_one (ps_ret (pe_ix ix_list (pv 0) (pe_op op_mod (pv 1) (pe_callB call_len_seq rfl T.b_len boot_len (pa_cons (pv 0) pa_nil))) (fun _ _ => rfl)))) pss_nil)
      (pss_one (ps_ret pe_int))), ?_⟩
    cases ns with
    | nil =>
      refine ⟨_, rfl, false, .inl ⟨_, hl, rfl⟩, iteF ?_⟩
      exact kk 0
    | cons n ns =>
      refine ⟨_, rfl, true, .inl ⟨_, hl, rfl⟩, iteT ?_⟩
      have hp : (0 : Int) < (((n :: ns).map V.int).length : Int) := by simp
      have h1 := Int.emod_nonneg k (Int.ne_of_gt hp)
      have h2 := Int.emod_lt_of_pos k hp
      obtain ⟨j, hj⟩ : ∃ j : Nat, k % (((n :: ns).map V.int).length : Int) = (j : Int) := ⟨(k % _).toNat, (Int.toNat_of_nonneg h1).symm⟩
      have hjl : j < (n :: ns).length := by rw [hj] at h2; simp at h2 ⊢; omega
      refine ⟨_, rfl, _, rfl, _, rfl, _, _, rfl, .inl hl, _, _, rfl, rfl, hp, _, _, _, .int (n :: ns)[j], rfl, rfl, hl, ?_, kk _⟩
      rw [hj]
      exact atI_nat (by rw [List.getElem?_map]; simp [hjl])
def spMix (K : PySem.W.Frag) : Sp := fun vs H Q _ => ∃ (l : Addr) (ns : List Int) (k : Int), vs = [.ref l, .int k] ∧ SqL K H l (ns.map V.int) ∧ ∀ x : Int, 0 ≤ x → x < 4294967231 → Q (.int x) H
theorem sc__law_mix : FnScope ["_law_script", "_law_k", "_law_number"] ["_law_script", "_law_k"] (defScope s__law_mix) := ⟨rfl, rfl, rfl, by decide +kernel, rfl, by decide +kernel, by decide +kernel⟩
theorem ok__law_mix (T : Txt K mg a) : FnOk P w K mg base (CXe P w) 2 a.f__law_mix a.fd__law_mix ["_law_script", "_law_k"] (spMix K) := by
  have G__law_cell : FnOk P w K mg base (CXe P w) 1 a.f__law_cell a.fd__law_cell ["_law_script", "_law_k"] (spCell K) := ok__law_cell T
  refine T.F__law_mix.okN sc__law_mix (fun vs H Q E h => ?_) (fun cdv A' outer s H vs Q E hr h => ?_)
  · obtain ⟨l, ns, k, rfl, _⟩ := h
    rfl
  · obtain ⟨l, ns, k, rfl, hl, kk⟩ := h
    refine ⟨_, (pss_cons (ps_set (i := 2) sc__law_mix.nd rfl (Or.inl rfl) (pe_op op_mod (pe_op op_add (pe_call G__law_cell (hr.mono (by decide)) rfl T.f__law_cell T.kp__law_cell T.B__law_cell .nil passN (pa_cons (pv 0) (pa_cons (pv 1) pa_nil))) (pe_op op_mul pe_int (pe_op op_add (pv 1) pe_int))) pe_int))
      (pss_cons (ps_set (i := 2) sc__law_mix.nd rfl (Or.inl rfl) (pe_op op_mod (pe_op op_mul (pv 2) pe_int) pe_int))
      (pss_one (ps_ret (pe_op op_mod (pe_op op_add (pe_op op_mul (pe_op op_fdivB (pv 2) pe_int) pe_int) (pv 2)) pe_int))))), ?_⟩
    refine ⟨_, rfl, _, rfl, l, ns, k, rfl, hl, fun x => ?_⟩
    refine ⟨_, rfl, _, _, rfl, rfl, _, _, rfl, rfl, .inl ⟨by decide, by decide⟩, _, _, rfl, rfl, _, _, rfl, rfl, (by show (0 : Int) < 4294967291; decide), ?_⟩
    refine ⟨_, rfl, _, _, rfl, rfl, .inr ⟨by decide, by decide⟩, _, _, rfl, rfl, (by show (0 : Int) < 4294967279; decide), ?_⟩
    refine ⟨_, rfl, _, _, rfl, rfl, ⟨by decide, by decide⟩, _, _, rfl, rfl, .inr ⟨by decide, by decide⟩, _, rfl, _, _, rfl, rfl, _, _, rfl, rfl, (by show (0 : Int) < 4294967231; decide), ?_⟩
    exact kk _ (Int.emod_nonneg _ (by decide)) (Int.emod_lt_of_pos _ (by decide))
def spWhole : Sp := fun vs H Q _ => ∃ i : Int, vs = [.int i] ∧ Q (.bl true) H
theorem sc__law_whole : FnScope ["_law_found"] ["_law_found"] (defScope s__law_whole) := ⟨rfl, rfl, rfl, by decide +kernel, rfl, by decide +kernel, by decide +kernel⟩
theorem ok__law_whole (T : Txt K mg a) : FnOk P w K mg base (CXe P w) 1 a.f__law_whole a.fd__law_whole ["_law_found"] spWhole := by
  refine T.F__law_whole.okN sc__law_whole (fun vs H Q E h => ?_) (fun cdv A' outer s H vs Q E hr h => ?_)
  · obtain ⟨i, rfl, _⟩ := h
    rfl
  · obtain ⟨i, rfl, kk⟩ := h
    refine ⟨_, (pss_one (ps_ret (pe_and (pe_callB call_isi rfl T.b_isinstance boot_isinstance (pa_cons (pv 0) (pa_cons (pe_bty T.b_int PyProof.Rows.boot_int) pa_nil))) (pe_one (pe_not (pe_callB call_isi rfl T.b_isinstance boot_isinstance (pa_cons (pv 0) (pa_cons (pe_bty T.b_bool PyProof.Rows.boot_bool) pa_nil)))))))), ?_⟩
    refine ⟨_, rfl, _, _, _, _, _, rfl, .int i, rfl, kit_same, _, rfl, iteT ?_⟩
    exact ⟨_, rfl, _, _, _, _, _, rfl, .int i, rfl, T.ty_int_bool, _, rfl, kk⟩
/-! ### what is refused -/
theorem kitAny2 {K : PySem.W.Frag} {t c d : Value} (h1 : PySem.W.kitOne K t c = some false) (h2 : PySem.W.kitOne K t d = some false) : PySem.W.kitAny K t [c, d] = some false := by
  simp [PySem.W.kitAny, h1, h2]
def spMade (c : Cl) : Sp := fun vs H Q _ => ∃ (S n : Int), vs = [.int S, .int n] ∧ Lg S ∧ Lg n ∧ (¬ GoodW S n → ∀ H', Same H H' → Q (.str "wheels") H') ∧ (GoodW S n → ∀ (H' : Hp) (p : Addr), BookAt c H H' p (newV S n.toNat) → Q (.ref p) H')
theorem sc__law_made : FnScope ["_law_slots", "_law_levels", "_law_kept", "_law_book", "e", "_law_good"] ["_law_slots", "_law_levels"] (defScope s__law_made) := ⟨rfl, rfl, rfl, by decide +kernel, rfl, by decide +kernel, by decide +kernel⟩
theorem ok__law_made (T : Txt K mg a) : FnOk P w K mg base (CXe P w) 8 a.f__law_made a.fd__law_made ["_law_slots", "_law_levels"] (spMade (clOf a)) := by
  have G_Book : FnOk P w K mg base (CXe P w) 6 a.f_Book___init__ a.fd_Book___init__ ["self", "slots", "levels"] (spBookInit (clOf a) a.C_BadWheels) := ok_Book_init T
  refine T.F__law_made.okN sc__law_made (fun vs H Q E h => ?_) (fun cdv A' outer s H vs Q E hr h => ?_)
  · obtain ⟨S, n, rfl, _⟩ := h
    rfl
  · obtain ⟨S, n, rfl, l1, l2, k0, k1⟩ := h
    refine ⟨_, (pss_cons (ps_set (i := 2) sc__law_made.nd rfl (Or.inl rfl) pe_non)
      (pss_cons (ps_set (i := 3) sc__law_made.nd rfl (Or.inl rfl) pe_non)
      (pss_cons (ps_try rfl rfl sc__law_made.nd (j := 4) rfl rfl rfl T.c_TickError T.ct_TickError (psxs_one (psx_set (i := 3) sc__law_made.nd rfl (Or.inl rfl) (px_make T.M_Book G_Book (hr.mono (by decide)) rfl T.c_Book T.B_Book___init__ .nil (pa_cons (pv 0) (pa_cons (pv 1) pa_nil))))) (fun _ => (pss_one (ps_set (i := 2) sc__law_made.nd rfl (Or.inl rfl) (pv 4)))))
      (pss_cons (ps_if (pt_cmpR op_notN (pv 2) pe_non (nomark _)) (pss_cons (ps_set (i := 5) sc__law_made.nd rfl (Or.inl rfl) (pe_and (pe_callB call_isiE (by rfl) T.b_isinstance boot_isinstance (pa_cons (pv 2) (pa_cons (pe_gref T.c_BadWheels) pa_nil))) (pe_one (pe_callB call_isiE (by rfl) T.b_isinstance boot_isinstance (pa_cons (pv 2) (pa_cons (pe_bty T.b_ValueError boot_VE) pa_nil))))))
      (pss_one (ps_ret (pe_ifExp (pw_and (pt_truth (pv 5) (fun _ => rfl)) (pw_and1 (pt_not (pt_truth (pe_callB call_isiT (by rfl) T.b_isinstance boot_isinstance (pa_cons (pv 2) (pa_cons (pe_tup (pa_cons (pe_gref T.c_Past) (pa_cons (pe_gref T.c_NotThere) pa_nil))) pa_nil))) (fun _ => rfl))))).pt pe_str pe_str)))) pss_nil)
      (pss_one (ps_ret (pv 3))))))), ?_⟩
    refine ⟨_, rfl, _, rfl, fun x dx hx hdx nx => ?_⟩
    have sA : Same H (upd (upd H dx (.own x)) x (.ins a.C_Book dx [])) := fun b o e => by
      rw [upd_ne (ne_of_none e hx), upd_ne (ne_of_none e hdx)]
      exact e
    refine ⟨H, x, dx, S, n, rfl, l1, l2, sA, hx, upd_same, fun hb H1 s1 => ?_, fun g H1 b => ⟨rfl, ?_⟩⟩
    · refine ⟨a.C_BadWheels, rfl, T.sb_BadWheels_TickError, fun ea hea => ?_⟩
      refine ⟨_, rfl, ?_⟩
      refine ⟨_, rfl, rfl, _, rfl, iteT ?_⟩
      refine ⟨_, rfl, _, _, _, _, _, rfl, upd_same, T.ec_BadWheels, rfl, T.kt_BadWheels_BadWheels, _, rfl, iteT ?_⟩
      refine ⟨_, rfl, _, _, _, _, _, rfl, upd_same, T.ec_BadWheels, rfl, T.kv_BadWheels, ?_⟩
      refine ⟨_, rfl, _, rfl, iteT ?_⟩
      refine ⟨_, rfl, by show 2 ≤ sizeLine; decide, fun q hq => ?_⟩
      have hne : ea ≠ q := fun z => by rw [← z, upd_same] at hq; cases hq
      refine ⟨_, _, _, _, _, _, rfl, (by rw [upd_ne hne]; exact upd_same), T.ec_BadWheels, SqT.of upd_same, (by rfl : _ = [Value.ref a.C_Past, Value.ref a.C_NotThere].map some), kitAny2 T.kt_BadWheels_Past T.kt_BadWheels_NotThere, _, rfl, ?_⟩
      exact k0 hb _ (s1.trans ((Same.upd hea).trans (Same.upd hq)))
    · refine ⟨_, rfl, rfl, _, rfl, iteF ?_⟩
      exact ⟨_, rfl, k1 g H1 x b⟩
def spLawSet (c : Cl) : Sp := fun vs H Q _ => ∃ (H0 : Hp) (p : Addr) (v : Vw) (due : Int), vs = [.ref p, .int due] ∧ BookAt c H0 H p v ∧ Lg due ∧ v.next < 63 ∧ (due ≤ v.now → ∀ H', BookAt c H0 H' p v → Q (.str "past") H') ∧ (v.now < due → ∀ H', BookAt c H0 H' p { v with next := v.next + 1, wait := fput v.wait v.next (some ⟨"wake", due, none⟩) } → Q (.int v.next) H')
theorem sc__law_set : FnScope ["_law_book", "_law_due", "_law_kept", "_law_found", "e"] ["_law_book", "_law_due"] (defScope s__law_set) := ⟨rfl, rfl, rfl, by decide +kernel, rfl, by decide +kernel, by decide +kernel⟩
theorem BookAt.up {c : Cl} {H0 H H' : Hp} {p : Addr} {v : Vw} (b : BookAt c H0 H p v) (s : Same H H') : BookAt c H0 H' p v := by
  obtain ⟨A, sl, B, e, b, r⟩ := b
  exact ⟨A, sl, B, e, b.up s, r⟩
theorem ok__law_set (T : Txt K mg a) : FnOk P w K mg base (CXe P w) 6 a.f__law_set a.fd__law_set ["_law_book", "_law_due"] (spLawSet (clOf a)) := by
  have G_set_alarm : FnOk P w K mg base (CXe P w) 5 a.f_set_alarm a.fd_set_alarm ["book", "name", "due", "step"] (spSet (clOf a) a.C_Past) := ok_set_alarm T
  refine T.F__law_set.okN sc__law_set (fun vs H Q E h => ?_) (fun cdv A' outer s H vs Q E hr h => ?_)
  · obtain ⟨H0, p, v, due, rfl, _⟩ := h
    rfl
  · obtain ⟨H0, p, v, due, rfl, b, l1, h63, k0, k1⟩ := h
    refine ⟨_, (pss_cons (ps_set (i := 2) sc__law_set.nd rfl (Or.inl rfl) pe_non)
      (pss_cons (ps_set (i := 3) sc__law_set.nd rfl (Or.inl rfl) pe_non)
      (pss_cons (ps_try rfl rfl sc__law_set.nd (j := 4) rfl rfl rfl T.c_TickError T.ct_TickError (psxs_one (psx_set (i := 3) sc__law_set.nd rfl (Or.inl rfl) (px_call G_set_alarm (hr.mono (by decide)) rfl T.f_set_alarm T.kp_set_alarm T.B_set_alarm .nil (pa_cons (pv 0) (pa_cons pe_str (pa_cons (pv 1) (pa_cons pe_non pa_nil))))))) (fun _ => (pss_one (ps_set (i := 2) sc__law_set.nd rfl (Or.inl rfl) (pv 4)))))
      (pss_cons (ps_if (pt_cmpR op_notN (pv 2) pe_non (nomark _)) (pss_one (ps_ret (pe_ifExp (pw_and (pt_truth (pe_callB call_isiE (by rfl) T.b_isinstance boot_isinstance (pa_cons (pv 2) (pa_cons (pe_gref T.c_Past) pa_nil))) (fun _ => rfl)) (pw_and1 (pt_not (pt_truth (pe_callB call_isiT (by rfl) T.b_isinstance boot_isinstance (pa_cons (pv 2) (pa_cons (pe_tup (pa_cons (pe_gref T.c_BadWheels) (pa_cons (pe_gref T.c_NotThere) pa_nil))) pa_nil))) (fun _ => rfl))))).pt pe_str pe_str))) pss_nil)
      (pss_one (ps_ret (pv 3))))))), ?_⟩
    refine ⟨_, rfl, _, rfl, H0, p, v, "wake", due, none, rfl, b, l1, (fun s z => by cases z), h63, fun hb => ?_, fun hd _ H1 b1 => ?_⟩
    · refine ⟨a.C_Past, rfl, T.sb_Past_TickError, fun ea hea => ?_⟩
      refine ⟨_, rfl, ?_⟩
      refine ⟨_, rfl, rfl, _, rfl, iteT ?_⟩
      refine ⟨_, rfl, _, _, _, _, _, rfl, upd_same, T.ec_Past, rfl, T.kt_Past_Past, _, rfl, iteT ?_⟩
      refine ⟨_, rfl, by show 2 ≤ sizeLine; decide, fun q hq => ?_⟩
      have hne : ea ≠ q := fun z => by rw [← z, upd_same] at hq; cases hq
      refine ⟨_, _, _, _, _, _, rfl, (by rw [upd_ne hne]; exact upd_same), T.ec_Past, SqT.of upd_same, (by rfl : _ = [Value.ref a.C_BadWheels, Value.ref a.C_NotThere].map some), kitAny2 T.kt_Past_BadWheels T.kt_Past_NotThere, _, rfl, ?_⟩
      refine k0 ?_ _ (b.up ((Same.upd hea).trans (Same.upd hq)))
      rcases hb with z | ⟨s, z, _⟩
      · exact z
      · cases z
    · refine ⟨_, rfl, rfl, _, rfl, iteF ?_⟩
      exact ⟨_, rfl, k1 hd H1 b1⟩
end
end Tk
end
section
namespace Tk
open PySem L2 Mir Rk Tb
open PyProof.Rows (boot_sorted boot_min boot_enumerate boot_isinstance)
theorem Lg_of {x : Int} (h1 : -(2 ^ 100) < x) (h2 : x < 2 ^ 100) : Lg x := by
  unfold Lg
  by_cases hz : x.natAbs = 0
  · rw [hz]; decide
  · have h : x.natAbs < 2 ^ 100 := by omega
    exact Nat.lt_trans ((Nat.log2_lt hz).mpr h) (by decide)
theorem pick {xs : List V} {i : Int} (h0 : 0 ≤ i) (h1 : i < (xs.length : Int)) : ∃ v, atI xs i = some v ∧ v ∈ xs := by
  obtain ⟨j, rfl⟩ : ∃ j : Nat, i = (j : Int) := ⟨i.toNat, (Int.toNat_of_nonneg h0).symm⟩
  have hj : j < xs.length := by omega
  exact ⟨xs[j], atI_nat (by simp [hj]), List.getElem_mem hj⟩
theorem pickI {ns : List Int} {i : Int} (h0 : 0 ≤ i) (h1 : i < (ns.length : Int)) : ∃ x, atI (ns.map V.int) i = some (V.int x) ∧ x ∈ ns := by
  obtain ⟨v, h2, h3⟩ := pick (xs := ns.map V.int) h0 (by simpa using h1)
  obtain ⟨x, hx, rfl⟩ := List.mem_map.mp h3
  exact ⟨x, h2, hx⟩
theorem BookAt.ob {c : Cl} {H0 H : Hp} {p : Addr} {v : Vw} (b : BookAt c H0 H p v) : ∃ dx r x y n1 n2 n3 n4, H p = some (.ins c.Book dx (bookF r x y n1 n2 n3 n4)) := by
  obtain ⟨A, sl, B, rfl, b, _⟩ := b
  exact ⟨_, _, _, _, _, _, _, _, b.book⟩
theorem BookAt.same {c : Cl} {H0 H : Hp} {p : Addr} {v : Vw} (b : BookAt c H0 H p v) : Same H0 H := by
  obtain ⟨A, sl, B, _, b, _⟩ := b
  exact b.same
theorem BookAt.weak {c : Cl} {H0 H1 H : Hp} {p : Addr} {v : Vw} (b : BookAt c H0 H p v) (s : Same H1 H0) : BookAt c H1 H p v := by
  obtain ⟨A, sl, B, e, b, r⟩ := b
  exact ⟨A, sl, B, e, b.weak s, r⟩
/-! ### what rings of one alarm -/
def none_ : Fn Str := fun _ => none
def one (d : Int) : Fn Str := fput none_ 0 (some ⟨"wake", d, none⟩)
theorem runs_none {goal : Int} {rs : List (Int × Int × Str)} {g : Fn Str} (h : Runs goal none_ rs g) : rs = [] ∧ g = none_ := by
  obtain ⟨a, b⟩ := h.unique (.stop fun n a e => by cases e)
  exact ⟨a, b⟩
theorem one_at {d k : Int} {al : Al Str} (h : one d k = some al) : k = 0 ∧ al = ⟨"wake", d, none⟩ := by
  unfold one fput at h
  by_cases e : k = 0
  · rw [if_pos e] at h; exact ⟨e, (Option.some.inj h).symm⟩
  · rw [if_neg e] at h; cases h
theorem runs_early {goal d : Int} {rs : List (Int × Int × Str)} {g : Fn Str} (h : Runs goal (one d) rs g) (hd : goal < d) : rs = [] ∧ g = one d := by
  obtain ⟨a, b⟩ := h.unique (.stop fun n al e => by obtain ⟨_, rfl⟩ := one_at e; exact hd)
  exact ⟨a, b⟩
theorem runs_late {goal d : Int} {rs : List (Int × Int × Str)} {g : Fn Str} (h : Runs goal (one d) rs g) (hd : d ≤ goal) : rs = ([(d, 0, ("wake" : Str))] : List (Int × Int × Str)) ∧ g = none_ := by
  have nx : Next goal (one d) 0 ⟨"wake", d, none⟩ := ⟨fput_same _ _ _, hd, fun m b e => by obtain ⟨rfl, rfl⟩ := one_at e; exact .refl _ _⟩
  have eg : fput (one d) 0 (after (⟨"wake", d, none⟩ : Al Str)) = none_ := by
    unfold one
    rw [fput_fput]
    funext m
    unfold fput
    by_cases e : m = 0
    · rw [if_pos e]; rfl
    · rw [if_neg e]
  obtain ⟨a, b⟩ := h.unique (.ring nx (.stop fun n al e => by rw [eg] at e; cases e))
  exact ⟨a, b.trans eg⟩
theorem muF_le {goal : Int} {N : Nat} {f : Fn Str} (h : ∀ k al, f k = some al → al.step = none) : muF goal N f ≤ N := by
  unfold muF
  induction N with
  | zero => exact Nat.le_refl _
  | succ N ih =>
    rw [List.range_succ, List.map_append, List.sum_append]
    have : cntO goal (f (N : Int)) ≤ 1 := by
      cases e : f (N : Int) with
      | none => exact Nat.zero_le _
      | some al =>
        show cnt goal al ≤ 1
        unfold cnt
        rw [h _ _ e]
        by_cases hd : al.tick ≤ goal <;> simp [hd]
    simp only [List.map_cons, List.map_nil, List.sum_cons, List.sum_nil]
    omega
theorem mu_none (goal : Int) : muF goal 63 none_ ≤ 1000000 := Nat.le_trans (muF_le fun k al e => by cases e) (by decide)
theorem mu_one (goal d : Int) : muF goal 63 (one d) ≤ 1000000 := Nat.le_trans (muF_le fun k al e => by obtain ⟨_, rfl⟩ := one_at e; rfl) (by decide)
/-! ### lists as data -/
theorem shT (x : Int) : SeqAt.shaped (.list [.tuple [.int x, .int 0, .str "wake"]]) = true := by
  have h : PyData.strOk ("wake" : Str) = true := by decide +kernel
  unfold SeqAt.shaped
  simp [PyData.canLay0, PyData.canLayAll0, PyData.depth, PyData.depthAll]
  exact h
def ringD (r : Int × Int × Str) : PyData := .tuple [.int r.1, .int r.2.1, .str r.2.2]
theorem RingsAt.den {K : PySem.W.Frag} {H : Hp} {l : Addr} {rs : List (Int × Int × Str)} (r : RingsAt H l rs) : Den K H (.ref l) (.list (rs.map ringD)) := by
  obtain ⟨qs, rfl, h, t⟩ := r
  refine .lst (SqL.of h) ?_
  clear h
  induction qs with
  | nil => exact .nil
  | cons q qs ih =>
    refine .cons (.tup (SqT.of (t q List.mem_cons_self)) (.cons (.int _) (.cons (.int _) (.cons (.str _) .nil)))) ?_
    exact ih fun q' h' => t q' (List.mem_cons_of_mem _ h')
theorem ints_den {K : PySem.W.Frag} {H : Hp} {l : Addr} {ns : List Int} (h : H l = some (.lst (ns.map V.int))) : Den K H (.ref l) (.list (ns.map PyData.int)) := by
  refine .lst (SqL.of h) ?_
  clear h
  induction ns with
  | nil => exact .nil
  | cons n ns ih => exact .cons (.int n) ih
section
variable {P : Program} {w : World} {K : PySem.W.Frag} {mg : Str → Option Value} {base : Heap} {a : Ad}
def spLaw (K : PySem.W.Frag) : Sp := fun vs H Q _ => ∃ (l : Addr) (ns : List Int), vs = [.ref l] ∧ SqL K H l (ns.map V.int) ∧ ns.length ≤ 63 ∧ ∀ H', Q (.bl true) H'
theorem sc_law : FnScope ["_law_script", "_law_slots", "_law_levels", "_law_book", "_law_span", "_law_k", "_law_now", "_law_some", "_law_ticks", "_law_found", "_law_before", "_law_told"] ["_law_script"] (defScope s_law) := ⟨rfl, rfl, rfl, by decide +kernel, rfl, by decide +kernel, by decide +kernel⟩
set_option maxHeartbeats 8000000 in
theorem ok_law (T : Txt K mg a) : FnOk P w K mg base (CXe P w) 10 a.f_law a.fd_law ["_law_script"] (spLaw K) := by
  have G__law_mix : FnOk P w K mg base (CXe P w) 2 a.f__law_mix a.fd__law_mix ["_law_script", "_law_k"] (spMix K) := ok__law_mix T
  have G__law_whole : FnOk P w K mg base (CXe P w) 1 a.f__law_whole a.fd__law_whole ["_law_found"] spWhole := ok__law_whole T
  have G__law_made : FnOk P w K mg base (CXe P w) 8 a.f__law_made a.fd__law_made ["_law_slots", "_law_levels"] (spMade (clOf a)) := ok__law_made T
  have G__law_set : FnOk P w K mg base (CXe P w) 6 a.f__law_set a.fd__law_set ["_law_book", "_law_due"] (spLawSet (clOf a)) := ok__law_set T
  have G_pass_ticks : FnOk P w K mg base (CXe P w) 7 a.f_pass_ticks a.fd_pass_ticks ["book", "ticks"] (spPass (clOf a) a.C_Past) := ok_pass_ticks T
  have G_Book_soonest : FnOk P w K mg base (CXe P w) 3 a.f_Book_soonest a.fd_Book_soonest ["self"] (spSoonest (clOf a)) := ok_Book_soonest T
  have G_Book_time : FnOk P w K mg base (CXe P w) 1 a.f_Book_time a.fd_Book_time ["self"] (spTime (clOf a)) := ok_Book_time T
  have G_Book_waiting : FnOk P w K mg base (CXe P w) 1 a.f_Book_waiting a.fd_Book_waiting ["self"] (spNums (clOf a) (·.wait)) := ok_Book_waiting T
  have G_Book_due : FnOk P w K mg base (CXe P w) 1 a.f_Book_due a.fd_Book_due ["self", "number"] (spDue (clOf a) a.C_NotThere) := ok_Book_due T
  refine T.F_law.okN sc_law (fun vs H Q E h => ?_) (fun cdv A' outer s H vs Q E hr h => ?_)
  · obtain ⟨l, ns, rfl, _⟩ := h
    rfl
  · obtain ⟨l, ns, rfl, hl, hlen, k⟩ := h
    refine ⟨_, pss_sem, ?_⟩
    have lg : ∀ x : Int, -(2 ^ 100) < x → x < 2 ^ 100 → Lg x := fun x h1 h2 => Lg_of h1 h2
    -- slots
    change TSem _ (_ :: _) _ _ _
    generalize hL1 : Expr.List _ _ = L1
    refine go_cons (ps_set (i := 1) sc_law.nd rfl (Or.inl rfl) (pe_ix ix_list (pe_litL hL1 rfl) (pe_op op_mod (pe_call G__law_mix (hr.mono (by decide)) (by rfl) T.f__law_mix T.kp__law_mix T.B__law_mix .nil passN (pa_cons (pv 0) (pa_cons pe_int pa_nil))) pe_int) (fun _ _ => rfl))) ?_
    clear hL1
    refine ⟨by decide, fun q1 hq1 => ?_⟩
    refine ⟨_, rfl, l, ns, _, rfl, (Same.upd hq1).seq hl, fun m1 g0 g1 => ?_⟩
    obtain ⟨S, hS1, hS2⟩ := pickI (ns := [2, 2, 3, 10, 63, 64, 1, 0, -1, 65]) (i := m1 % 10) (Int.emod_nonneg _ (by decide)) (Int.emod_lt_of_pos _ (by decide))
    have hSb : -1 ≤ S ∧ S ≤ 65 := by simp at hS2; omega
    refine ⟨_, _, rfl, rfl, (by show (0 : Int) < 10; decide), _, _, _, .int S, rfl, rfl, SqL.of upd_same, hS1, ?_⟩
    -- levels
    change TSem _ (_ :: _) _ _ _
    generalize hL2 : Expr.List _ _ = L2
    refine go_cons (ps_set (i := 2) sc_law.nd rfl (Or.inl rfl) (pe_ix ix_list (pe_litL hL2 rfl) (pe_op op_mod (pe_call G__law_mix (hr.mono (by decide)) (by rfl) T.f__law_mix T.kp__law_mix T.B__law_mix .nil passN (pa_cons (pv 0) (pa_cons pe_int pa_nil))) pe_int) (fun _ _ => rfl))) ?_
    clear hL2
    refine ⟨by decide, fun q2 hq2 => ?_⟩
    refine ⟨_, rfl, l, ns, _, rfl, ((Same.upd hq1).trans (Same.upd hq2)).seq hl, fun m2 _ _ => ?_⟩
    obtain ⟨n, hn1, hn2⟩ := pickI (ns := [1, 2, 3, 5, 6, 4, 0, -1, 7, 6]) (i := m2 % 10) (Int.emod_nonneg _ (by decide)) (Int.emod_lt_of_pos _ (by decide))
    have hnb : -1 ≤ n ∧ n ≤ 7 := by simp at hn2; omega
    refine ⟨_, _, rfl, rfl, (by show (0 : Int) < 10; decide), _, _, _, .int n, rfl, rfl, SqL.of upd_same, hn1, ?_⟩
    generalize hHb : upd _ q2 _ = Hb
    have s2 : Same H Hb := by rw [← hHb]; exact (Same.upd hq1).trans (Same.upd hq2)
    clear hHb hq1 hq2 hS1 hn1
    -- the book
    refine go_cons (ps_set (i := 3) sc_law.nd rfl (Or.inl rfl) (pe_call G__law_made (hr.mono (by decide)) (by rfl) T.f__law_made T.kp__law_made T.B__law_made .nil passN (pa_cons (pv 1) (pa_cons (pv 2) pa_nil)))) ?_
    refine ⟨_, rfl, _, rfl, S, n, rfl, lg S (by omega) (by omega), lg n (by omega) (by omega), fun hbad H2 sb => ?_, fun hgood H2 p b => ?_⟩
    · -- refused
      refine go_cons (ps_if (pw_or (pt_not (pt_chain op_le op_le pe_int (pv 1) pe_int)) (pw_or1 (pt_not (pt_chain op_le op_le pe_int (pv 2) pe_int)))).pt (pss_one (ps_ret (pe_and (pe_callB call_isi (by rfl) T.b_isinstance boot_isinstance (pa_cons (pv 3) (pa_cons (pe_bty T.b_str PyProof.Rows.boot_str) pa_nil))) (pe_one (pe_cmpR op_eq (pv 3) pe_str (nomark _)))))) pss_nil) ?_
      refine ⟨_, rfl, _, _, rfl, rfl, _, rfl, ite2 (fun c1 => ?_) (fun c1 => ?_)⟩
      · refine ⟨_, _, rfl, rfl, _, rfl, ite2 (fun c2 => ?_) (fun c2 => ?_)⟩
        · refine iteT ⟨_, rfl, _, _, _, _, _, rfl, .str _, rfl, kit_same, _, rfl, iteT ⟨_, rfl, rfl, ?_⟩⟩
          show Q (.bl (decide (V.str "wheels" = V.str "wheels"))) _
          rw [decide_eq_true rfl]
          exact k _
        · have d1 : 2 ≤ S := of_decide_eq_true c1
          have d2 : S ≤ 64 := by
            rcases Int.lt_or_le 64 S with z | z
            · exact (c2 (by rw [decide_eq_false (by omega)]; rfl)).elim
            · exact z
          refine ⟨_, rfl, _, _, rfl, rfl, _, rfl, ite2 (fun c3 => ?_) (fun c3 => ?_)⟩
          · refine ⟨_, _, rfl, rfl, _, rfl, ?_⟩
            have d3 : 1 ≤ n := of_decide_eq_true c3
            have d4 : ¬ n ≤ 6 := fun z => hbad ⟨⟨d1, d2⟩, d3, z⟩
            rw [decide_eq_false d4]
            refine iteT ⟨_, rfl, _, _, _, _, _, rfl, .str _, rfl, kit_same, _, rfl, iteT ⟨_, rfl, rfl, ?_⟩⟩
            show Q (.bl (decide (V.str "wheels" = V.str "wheels"))) _
            rw [decide_eq_true rfl]
            exact k _
          · refine ⟨_, rfl, ?_⟩
            refine iteT ⟨_, rfl, _, _, _, _, _, rfl, .str _, rfl, kit_same, _, rfl, iteT ⟨_, rfl, rfl, ?_⟩⟩
            show Q (.bl (decide (V.str "wheels" = V.str "wheels"))) _
            rw [decide_eq_true rfl]
            exact k _
      · refine ⟨_, rfl, ?_⟩
        refine iteT ⟨_, rfl, _, _, _, _, _, rfl, .str _, rfl, kit_same, _, rfl, iteT ⟨_, rfl, rfl, ?_⟩⟩
        show Q (.bl (decide (V.str "wheels" = V.str "wheels"))) _
        rw [decide_eq_true rfl]
        exact k _
    · -- made
      obtain ⟨⟨a1, a2⟩, a3, a4⟩ := id hgood
      refine go_cons (ps_if (pw_or (pt_not (pt_chain op_le op_le pe_int (pv 1) pe_int)) (pw_or1 (pt_not (pt_chain op_le op_le pe_int (pv 2) pe_int)))).pt (pss_one (ps_ret (pe_and (pe_callB call_isi (by rfl) T.b_isinstance boot_isinstance (pa_cons (pv 3) (pa_cons (pe_bty T.b_str PyProof.Rows.boot_str) pa_nil))) (pe_one (pe_cmpR op_eq (pv 3) pe_str (nomark _)))))) pss_nil) ?_
      refine ⟨_, rfl, _, _, rfl, rfl, _, rfl, ?_⟩
      rw [decide_eq_true a1]
      refine iteT ⟨_, _, rfl, rfl, _, rfl, ?_⟩
      rw [decide_eq_true a2]
      refine iteF ⟨_, rfl, _, _, rfl, rfl, _, rfl, ?_⟩
      rw [decide_eq_true a3]
      refine iteT ⟨_, _, rfl, rfl, _, rfl, ?_⟩
      rw [decide_eq_true a4]
      refine iteF ?_
      have sH : Same H H2 := s2.trans b.same
      obtain ⟨dx0, r0, x0, y0, u1, u2, u3, u4, hob⟩ := b.ob
      refine go_cons (ps_if (pt_truth (pe_callB call_isi (by rfl) T.b_isinstance boot_isinstance (pa_cons (pv 3) (pa_cons (pe_bty T.b_str PyProof.Rows.boot_str) pa_nil))) (fun _ => rfl)) (pss_one (ps_ret pe_bl)) pss_nil) ?_
      refine ⟨_, rfl, _, _, _, _, _, rfl, T.ti_Book.ty T.cl_Book hob, rfl, T.ty_C_Book_str, _, rfl, iteF ?_⟩
      refine go_cons (ps_set (i := 4) sc_law.nd rfl (Or.inl rfl) pe_int) ?_
      refine go_cons (ps_for PassesOwn.never rfl (pi_range1 rfl T.b_range (pa_cons (pe_op op_mod (pe_call G__law_mix (hr.mono (by decide)) (by rfl) T.f__law_mix T.kp__law_mix T.B__law_mix .nil passN (pa_cons (pv 0) (pa_cons pe_int pa_nil))) (pe_op op_add (pv 2) pe_int)) pa_nil)) (pg_name (i := 5) sc_law.nd rfl (Or.inl rfl)) (pss_one (ps_set (i := 4) sc_law.nd rfl (Or.inl rfl) (pe_op op_mul (pv 4) (pv 1))))) ?_
      refine ⟨_, rfl, l, ns, _, rfl, sH.seq hl, fun m3 _ _ => ?_⟩
      have e3 := Int.emod_nonneg m3 (b := n + 2) (by omega)
      have e4 := Int.emod_lt_of_pos m3 (b := n + 2) (by omega)
      refine ⟨_, rfl, _, _, rfl, rfl, _, _, rfl, rfl, (by show (0 : Int) < n + 2; omega), _, rfl, (by omega), (by omega), ?_⟩
      refine for_range (lo := 0) (n := (m3 % (n + 2)).toNat) (fun i σ Hi => ∃ x, σ = [some (.ref l), some (.int S), some (.int n), some (.ref p), some (.int (S ^ i)), x, none, none, none, none, none, none] ∧ Hi = H2) ⟨none, by rw [Int.pow_zero]; rfl, rfl⟩ ?_ ?_
      · rintro i σ Hi hi ⟨x, rfl, rfl⟩
        obtain ⟨w1, w2⟩ := pow_small a1 a2 (i := i) (by omega)
        refine ⟨_, rfl, _, rfl, _, _, rfl, rfl, .inl ⟨by omega, Int.lt_of_le_of_lt w2 (by decide)⟩, some (.int (0 + (i : Int))), ?_, rfl⟩
        rw [Int.pow_succ]
        rfl
      · rintro σ Hi ⟨x5, rfl, rfl⟩
        obtain ⟨w1, w2⟩ := pow_small a1 a2 (i := (m3 % (n + 2)).toNat) (by omega)
        generalize S ^ (m3 % (n + 2)).toNat = sp at w1 w2
        -- now
        refine go_cons (ps_set (i := 6) sc_law.nd rfl (Or.inl rfl) (pe_ix ix_list (pe_lst (pa_cons pe_int (pa_cons pe_int (pa_cons (pv 4) (pa_cons (pe_op op_sub (pv 4) pe_int) (pa_cons (pe_op op_mod (pe_call G__law_mix (hr.mono (by decide)) (by rfl) T.f__law_mix T.kp__law_mix T.B__law_mix .nil passN (pa_cons (pv 0) (pa_cons pe_int pa_nil))) (pe_op op_mul pe_int (pv 4))) (pa_cons pe_int pa_nil))))))) (pe_op op_mod (pe_call G__law_mix (hr.mono (by decide)) (by rfl) T.f__law_mix T.kp__law_mix T.B__law_mix .nil passN (pa_cons (pv 0) (pa_cons pe_int pa_nil))) pe_int) (fun _ _ => rfl))) ?_
        refine ⟨_, rfl, _, rfl, _, _, rfl, rfl, _, rfl, l, ns, _, rfl, sH.seq hl, fun m4 _ _ => ?_⟩
        have f1 := Int.emod_nonneg m4 (b := 4 * sp) (by omega)
        have f2 := Int.emod_lt_of_pos m4 (b := 4 * sp) (by omega)
        refine ⟨_, rfl, _, _, rfl, rfl, .inl ⟨by decide, by decide⟩, _, _, rfl, rfl, (by show (0 : Int) < 4 * sp; omega), (by show 6 ≤ sizeLine; decide), fun q3 hq3 => ?_⟩
        refine ⟨_, rfl, l, ns, _, rfl, (sH.trans (Same.upd hq3)).seq hl, fun m5 _ _ => ?_⟩
        obtain ⟨now, hw1, hw2⟩ := pickI (ns := [0, 1, sp, sp - 1, m4 % (4 * sp), 99999999999999]) (i := m5 % 6) (Int.emod_nonneg _ (by decide)) (Int.emod_lt_of_pos _ (by decide))
        have hnow : 0 ≤ now ∧ now < 2 ^ 60 := by
          simp at hw2
          omega
        refine ⟨_, _, rfl, rfl, (by show (0 : Int) < 6; decide), _, _, _, .int now, rfl, rfl, SqL.of upd_same, hw1, ?_⟩
        generalize hH3 : upd _ q3 _ = H3
        have s3 : Same Hi H3 := by rw [← hH3]; exact Same.upd hq3
        clear hH3 hq3 hw1
        have b3 := b.up s3
        obtain ⟨dx0, r0, x0, y0, u1, u2, u3, u4, hob⟩ := b3.ob
        have shN : SeqAt.shaped (.list []) = true := by decide
        -- time goes on
        refine go_cons (ps_if (pw_or (pt_cmpR (op_neD hr.units) (pe_call G_pass_ticks (hr.mono (by decide)) (by rfl) T.f_pass_ticks T.kp_pass_ticks T.B_pass_ticks .nil passN (pa_cons (pv 3) (pa_cons (pv 6) pa_nil))) (pe_lst pa_nil) (nomark _)) (pw_or (pt_cmpR op_notN (pe_meth0 (pv 3) T.cl_Book T.m_Book_soonest G_Book_soonest (hr.mono (by decide)) T.B_Book_soonest .nil passN) pe_non (nomark _)) (pw_or1 (pt_cmpR op_ne (pe_meth0 (pv 3) T.cl_Book T.m_Book_time G_Book_time (hr.mono (by decide)) T.B_Book_time .nil passN) (pv 6) (nomark _))))).pt (pss_one (ps_ret pe_bl)) pss_nil) ?_
        refine ⟨_, rfl, _, rfl, Hb, p, _, now, rfl, b3, lg now (by omega) (by omega), fun z => (by omega), fun _ => ⟨mu_none _, fun H4 H1 lr rs g sS hl0 rr b4 run => ?_⟩⟩
        obtain ⟨rfl, rfl⟩ := runs_none run
        refine ⟨(by show 0 ≤ sizeLine; decide), fun q4 hq4 => ?_⟩
        have s4 := Same.upd (o := .lst []) hq4
        refine ⟨_, _, rr.den.same (b4.same.trans s4), ints_den (ns := []) upd_same, shN, shN, _, rfl, ?_⟩
        rw [show PyData.eqv (.list (([] : List (Int × Int × Str)).map ringD)) (.list (([] : List Int).map PyData.int)) = true from eqv_self shN]
        refine iteF ?_
        have b5 := (b4.weak sS).up s4
        obtain ⟨dx5, r5, x55, y5, v1, v2, v3, v4, hob5⟩ := b5.ob
        refine ⟨_, rfl, _, _, _, rfl, hob5, rfl, Hb, p, _, rfl, b5, fun H5 b6 => ⟨fun _ => ?_, fun m kk al z => by cases z⟩⟩
        refine ⟨rfl, _, rfl, iteF ?_⟩
        obtain ⟨dx6, r6, x6, y6, t1, t2, t3, t4, hob6⟩ := b6.ob
        refine ⟨_, rfl, _, _, _, rfl, hob6, rfl, Hb, p, _, rfl, b6, _, rfl, rfl, _, rfl, ?_⟩
        have ez : (0 : Int) + now = now := Int.zero_add now
        refine iteNS (by show V.int (0 + now) = V.int now; rw [ez]) ?_
        -- a stretch is drawn
        have sH5 : Same H H5 := s2.trans b6.same
        refine go_cons (ps_set (i := 7) sc_law.nd rfl (Or.inl rfl) (pe_lst (pa_cons pe_int (pa_cons (pe_un un_neg pe_int) (pa_cons pe_int (pa_cons (pv 4) (pa_cons (pe_op op_sub (pv 4) pe_int) (pa_cons (pe_op op_add (pv 4) pe_int) (pa_cons (pe_op op_mod (pe_call G__law_mix (hr.mono (by decide)) (by rfl) T.f__law_mix T.kp__law_mix T.B__law_mix .nil passN (pa_cons (pv 0) (pa_cons pe_int pa_nil))) (pe_op op_mul pe_int (pv 4))) (pa_cons pe_int pa_nil)))))))))) ?_
        refine ⟨_, rfl, _, rfl, _, rfl, _, _, rfl, rfl, _, rfl, _, _, rfl, rfl, _, rfl, l, ns, _, rfl, sH5.seq hl, fun m6 _ _ => ?_⟩
        have f3 := Int.emod_nonneg m6 (b := 4 * sp) (by omega)
        have f4 := Int.emod_lt_of_pos m6 (b := 4 * sp) (by omega)
        refine ⟨_, rfl, _, _, rfl, rfl, .inl ⟨by decide, by decide⟩, _, _, rfl, rfl, (by show (0 : Int) < 4 * sp; omega), (by show 8 ≤ sizeLine; decide), fun q5 hq5 => ?_⟩
        refine go_cons (ps_set (i := 8) sc_law.nd rfl (Or.inl rfl) (pe_ix ix_list (pv 7) (pe_op op_mod (pe_call G__law_mix (hr.mono (by decide)) (by rfl) T.f__law_mix T.kp__law_mix T.B__law_mix .nil passN (pa_cons (pv 0) (pa_cons pe_int pa_nil))) pe_int) (fun _ _ => rfl))) ?_
        refine ⟨_, rfl, _, rfl, l, ns, _, rfl, (sH5.trans (Same.upd hq5)).seq hl, fun m7 _ _ => ?_⟩
        obtain ⟨tk, ht1, ht2⟩ := pickI (ns := [0, -1, 1, sp, sp - 1, sp + 1, m6 % (4 * sp), 99999999999999]) (i := m7 % 8) (Int.emod_nonneg _ (by decide)) (Int.emod_lt_of_pos _ (by decide))
        have htk : -1 ≤ tk ∧ tk < 2 ^ 60 := by
          simp at ht2
          omega
        refine ⟨_, _, rfl, rfl, (by show (0 : Int) < 8; decide), _, _, _, .int tk, rfl, rfl, SqL.of upd_same, ht1, ?_⟩
        generalize hH6 : upd _ q5 _ = H6
        have s6 : Same H5 H6 := by rw [← hH6]; exact Same.upd hq5
        clear hH6 hq5 ht1
        have b7 := b6.up s6
        refine go_cons (ps_set (i := 9) sc_law.nd rfl (Or.inl rfl) (pe_call G__law_set (hr.mono (by decide)) (by rfl) T.f__law_set T.kp__law_set T.B__law_set .nil passN (pa_cons (pv 3) (pa_cons (pe_op op_add (pv 6) (pv 8)) pa_nil)))) ?_
        refine ⟨_, rfl, _, rfl, _, rfl, _, _, rfl, rfl, Hb, p, _, now + tk, rfl, b7, lg _ (by omega) (by omega), (by show (0 : Int) < 63; decide), fun hle H7 b8 => ?_, fun hlt H7 b8 => ?_⟩
        · have hle' : now + tk ≤ 0 + now := hle
          refine go_cons (ps_if (pt_cmpR op_le (pv 8) pe_int (nomark _)) (pss_one (ps_ret (pe_and (pe_cmpR op_eq (pv 9) pe_str (nomark _)) (pe_and (pe_cmpR (op_eqD hr.units) (pe_meth0 (pv 3) T.cl_Book T.m_Book_waiting G_Book_waiting (hr.mono (by decide)) T.B_Book_waiting .nil passN) (pe_lst pa_nil) (nomark _)) (pe_one (pe_cmpR op_isN (pe_meth0 (pv 3) T.cl_Book T.m_Book_soonest G_Book_soonest (hr.mono (by decide)) T.B_Book_soonest .nil passN) pe_non (nomark _))))))) pss_nil) ?_
          refine ⟨_, rfl, _, _, rfl, rfl, _, rfl, ?_⟩
          rw [decide_eq_true (show tk ≤ 0 by omega)]
          refine iteT ⟨_, rfl, rfl, _, rfl, ?_⟩
          rw [decide_eq_true rfl]
          obtain ⟨dx8, r8, x8, y8, w11, w12, w13, w14, hob8⟩ := b8.ob
          refine iteT ⟨_, rfl, _, _, _, rfl, hob8, rfl, Hb, p, _, rfl, b8, fun H8 lw out hlw b9 hN => ?_⟩
          have eo : out = [] := List.eq_nil_iff_forall_not_mem.mpr fun y hy => by have := (hN.2 y).mp hy; cases this
          subst eo
          refine ⟨(by show 0 ≤ sizeLine; decide), fun q6 hq6 => ?_⟩
          have s7 := Same.upd (o := .lst []) hq6
          refine ⟨_, _, ints_den (ns := []) (s7 _ _ (b9.same _ _ upd_same)), ints_den (ns := []) upd_same, shN, shN, _, rfl, ?_⟩
          rw [show PyData.eqv (.list (([] : List Int).map PyData.int)) (.list (([] : List Int).map PyData.int)) = true from eqv_self shN]
          have b10 := (b9.weak (Same.upd hlw)).up s7
          obtain ⟨dx9, r9, x9, y9, w21, w22, w23, w24, hob9⟩ := b10.ob
          refine iteT ⟨_, rfl, _, _, _, rfl, hob9, rfl, Hb, p, _, rfl, b10, fun H9 b11 => ⟨fun _ => ⟨rfl, ?_⟩, fun m kk al z => by cases z⟩⟩
          show Q (.bl (decide (V.non = V.non))) _
          rw [decide_eq_true rfl]
          exact k _
        · have hlt' : 0 + now < now + tk := hlt
          replace b8 : BookAt (clOf a) Hb H7 p ⟨S, n.toNat, 0 + now, 0 + 1, one (now + tk), fun _ => none⟩ := b8
          have one0 : one (now + tk) 0 = some ⟨"wake", now + tk, none⟩ := fput_same _ _ _
          have shZ : SeqAt.shaped (.list [.int 0]) = true := by decide
          refine go_cons (ps_if (pt_cmpR op_le (pv 8) pe_int (nomark _)) (pss_one (ps_ret (pe_and (pe_cmpR op_eq (pv 9) pe_str (nomark _)) (pe_and (pe_cmpR (op_eqD hr.units) (pe_meth0 (pv 3) T.cl_Book T.m_Book_waiting G_Book_waiting (hr.mono (by decide)) T.B_Book_waiting .nil passN) (pe_lst pa_nil) (nomark _)) (pe_one (pe_cmpR op_isN (pe_meth0 (pv 3) T.cl_Book T.m_Book_soonest G_Book_soonest (hr.mono (by decide)) T.B_Book_soonest .nil passN) pe_non (nomark _))))))) pss_nil) ?_
          refine ⟨_, rfl, _, _, rfl, rfl, _, rfl, ?_⟩
          rw [decide_eq_false (show ¬ tk ≤ 0 by omega)]
          refine iteF ?_
          -- number 0, the soonest, who waits
          refine go_cons (ps_if (pw_or (pt_not (pt_truth (pe_call G__law_whole (hr.mono (by decide)) (by rfl) T.f__law_whole T.kp__law_whole T.B__law_whole .nil passN (pa_cons (pv 9) pa_nil)) (fun _ => rfl))) (pw_or (pt_cmpR op_ne (pv 9) pe_int (nomark _)) (pw_or (pt_cmpR op_ne (pe_meth0 (pv 3) T.cl_Book T.m_Book_soonest G_Book_soonest (hr.mono (by decide)) T.B_Book_soonest .nil passN) (pe_op op_add (pv 6) (pv 8)) (nomark _)) (pw_or1 (pt_cmpR (op_neD hr.units) (pe_meth0 (pv 3) T.cl_Book T.m_Book_waiting G_Book_waiting (hr.mono (by decide)) T.B_Book_waiting .nil passN) (pe_lst (pa_cons pe_int pa_nil)) (nomark _)))))).pt (pss_one (ps_ret pe_bl)) pss_nil) ?_
          refine ⟨_, rfl, _, rfl, _, rfl, iteF ?_⟩
          refine ⟨_, rfl, rfl, _, rfl, iteNS rfl ?_⟩
          obtain ⟨dx8, r8, x8, y8, w11, w12, w13, w14, hob8⟩ := b8.ob
          refine ⟨_, rfl, _, _, _, rfl, hob8, rfl, Hb, p, _, rfl, b8, fun H8 b9 => ⟨fun z => ?_, fun m kk al z1 z2 _ => ?_⟩⟩
          · have zz : one (now + tk) 0 = none := z 0
            rw [one0] at zz
            cases zz
          have z1' : one (now + tk) kk = some al := z1
          obtain ⟨_, rfl⟩ := one_at z1'
          subst z2
          refine ⟨_, rfl, _, rfl, _, _, rfl, rfl, rfl, _, rfl, iteNS rfl ?_⟩
          obtain ⟨dx9, r9, x9, y9, w21, w22, w23, w24, hob9⟩ := b9.ob
          refine ⟨_, rfl, _, _, _, rfl, hob9, rfl, Hb, p, _, rfl, b9, fun H9 lw out hlw b10 hN => ?_⟩
          have eo : out = [0] := srt_eq hN.1 (by simp) fun y => by
            rw [hN.2 y]
            show (one (now + tk) y).isSome = true ↔ _
            constructor
            · intro z
              obtain ⟨al, hal⟩ := Option.isSome_iff_exists.mp z
              rw [(one_at hal).1]
              exact List.mem_singleton.mpr rfl
            · intro z
              rw [List.mem_singleton.mp z, one0]
              rfl
          subst eo
          refine ⟨(by show 1 ≤ sizeLine; decide), fun q6 hq6 => ?_⟩
          have s7 := Same.upd (o := .lst [.int 0]) hq6
          refine ⟨_, _, ints_den (ns := [0]) (s7 _ _ (b10.same _ _ upd_same)), ints_den (ns := [0]) upd_same, shZ, shZ, _, rfl, ?_⟩
          rw [show PyData.eqv (.list (([0] : List Int).map PyData.int)) (.list (([0] : List Int).map PyData.int)) = true from eqv_self shZ]
          refine iteF ?_
          have b11 := (b10.weak (Same.upd hlw)).up s7
          -- just before
          refine go_cons (ps_set (i := 10) sc_law.nd rfl (Or.inl rfl) (pe_op op_mod (pe_call G__law_mix (hr.mono (by decide)) (by rfl) T.f__law_mix T.kp__law_mix T.B__law_mix .nil passN (pa_cons (pv 0) (pa_cons pe_int pa_nil))) (pv 8))) ?_
          refine ⟨_, rfl, l, ns, _, rfl, (s2.trans b11.same).seq hl, fun m8 _ _ => ?_⟩
          have f5 := Int.emod_nonneg m8 (b := tk) (by omega)
          have f6 := Int.emod_lt_of_pos m8 (b := tk) (by omega)
          refine ⟨_, rfl, _, _, rfl, rfl, (by show (0 : Int) < tk; omega), ?_⟩
          refine go_cons (ps_if (pw_or (pt_cmpR (op_neD hr.units) (pe_call G_pass_ticks (hr.mono (by decide)) (by rfl) T.f_pass_ticks T.kp_pass_ticks T.B_pass_ticks .nil passN (pa_cons (pv 3) (pa_cons (pv 10) pa_nil))) (pe_lst pa_nil) (nomark _)) (pw_or (pt_cmpR op_ne (pe_meth0 (pv 3) T.cl_Book T.m_Book_soonest G_Book_soonest (hr.mono (by decide)) T.B_Book_soonest .nil passN) (pe_op op_add (pv 6) (pv 8)) (nomark _)) (pw_or1 (pt_cmpR op_ne (pe_meth (pv 3) T.cl_Book T.m_Book_due G_Book_due (hr.mono (by decide)) T.B_Book_due .nil passN (pa_cons pe_int pa_nil)) (pe_op op_add (pv 6) (pv 8)) (nomark _))))).pt (pss_one (ps_ret pe_bl)) pss_nil) ?_
          refine ⟨_, rfl, _, rfl, Hb, p, _, (m8 % tk), rfl, b11, lg (m8 % tk) (by omega) (by omega), fun z => (by omega), fun _ => ⟨mu_one _ (now + tk), fun H10 H1' lr2 rs2 g2 sS2 hl2 rr2 b12 run2 => ?_⟩⟩
          obtain ⟨rfl, rfl⟩ := runs_early (d := now + tk) run2 (by show 0 + now + (m8 % tk) < now + tk; omega)
          refine ⟨(by show 0 ≤ sizeLine; decide), fun q7 hq7 => ?_⟩
          have s8 := Same.upd (o := .lst []) hq7
          refine ⟨_, _, rr2.den.same (b12.same.trans s8), ints_den (ns := []) upd_same, shN, shN, _, rfl, ?_⟩
          rw [show PyData.eqv (.list (([] : List (Int × Int × Str)).map ringD)) (.list (([] : List Int).map PyData.int)) = true from eqv_self shN]
          refine iteF ?_
          have b13 := (b12.weak sS2).up s8
          obtain ⟨dx13, r13, x13, y13, w31, w32, w33, w34, hob13⟩ := b13.ob
          refine ⟨_, rfl, _, _, _, rfl, hob13, rfl, Hb, p, _, rfl, b13, fun H11 b14 => ⟨fun z => ?_, fun m kk al z1 z2 _ => ?_⟩⟩
          · have zz : one (now + tk) 0 = none := z 0
            rw [one0] at zz
            cases zz
          have z1' : one (now + tk) kk = some al := z1
          obtain ⟨_, rfl⟩ := one_at z1'
          subst z2
          refine ⟨_, rfl, _, rfl, _, _, rfl, rfl, rfl, _, rfl, iteNS rfl ?_⟩
          obtain ⟨dx14, r14, x14, y14, w41, w42, w43, w44, hob14⟩ := b14.ob
          refine ⟨_, rfl, _, _, _, rfl, hob14, rfl, Hb, p, _, 0, rfl, b14, lg 0 (by decide) (by decide), fun z => ?_, fun al z1 => ?_⟩
          · have zz : one (now + tk) 0 = none := z
            rw [one0] at zz
            cases zz
          have z1' : one (now + tk) 0 = some al := z1
          obtain ⟨_, rfl⟩ := one_at z1'
          refine ⟨_, rfl, _, rfl, _, _, rfl, rfl, rfl, _, rfl, iteNS rfl ?_⟩
          -- it rings
          refine go_cons (ps_set (i := 11) sc_law.nd rfl (Or.inl rfl) (pe_call G_pass_ticks (hr.mono (by decide)) (by rfl) T.f_pass_ticks T.kp_pass_ticks T.B_pass_ticks .nil passN (pa_cons (pv 3) (pa_cons (pe_op op_add (pe_op op_sub (pv 8) (pv 10)) (pe_op op_mod (pe_call G__law_mix (hr.mono (by decide)) (by rfl) T.f__law_mix T.kp__law_mix T.B__law_mix .nil passN (pa_cons (pv 0) (pa_cons pe_int pa_nil))) pe_int)) pa_nil)))) ?_
          refine ⟨_, rfl, _, rfl, _, rfl, _, _, rfl, rfl, _, rfl, l, ns, _, rfl, (s2.trans b14.same).seq hl, fun m9 _ _ => ?_⟩
          have f7 := Int.emod_nonneg m9 (b := 4) (by decide)
          have f8 := Int.emod_lt_of_pos m9 (b := 4) (by decide)
          refine ⟨_, _, rfl, rfl, (by show (0 : Int) < 4; decide), _, _, rfl, rfl, ?_⟩
          refine ⟨Hb, p, _, tk - (m8 % tk) + m9 % 4, rfl, b14, lg _ (by omega) (by omega), fun z => (by omega), fun _ => ⟨mu_one _ (now + tk), fun H12 H1'' lr3 rs3 g3 sS3 hl3 rr3 b15 run3 => ?_⟩⟩
          obtain ⟨rfl, rfl⟩ := runs_late (d := now + tk) run3 (by show now + tk ≤ 0 + now + (m8 % tk) + (tk - (m8 % tk) + m9 % 4); omega)
          have shT := shT
          refine go_one (ps_ret (pe_and (pe_cmpR (op_eqD hr.units) (pv 11) (pe_lst (pa_cons (pe_tup (pa_cons (pe_op op_add (pv 6) (pv 8)) (pa_cons pe_int (pa_cons pe_str pa_nil)))) pa_nil)) (nomark _)) (pe_and (pe_cmpR (op_eqD hr.units) (pe_meth0 (pv 3) T.cl_Book T.m_Book_waiting G_Book_waiting (hr.mono (by decide)) T.B_Book_waiting .nil passN) (pe_lst pa_nil) (nomark _)) (pe_one (pe_cmpR (op_eqD hr.units) (pe_call G_pass_ticks (hr.mono (by decide)) (by rfl) T.f_pass_ticks T.kp_pass_ticks T.B_pass_ticks .nil passN (pa_cons (pv 3) (pa_cons (pe_op op_mul pe_int (pv 4)) pa_nil))) (pe_lst pa_nil) (nomark _)))))) ?_
          refine ⟨_, rfl, _, rfl, _, rfl, _, _, rfl, rfl, (by show 3 ≤ sizeLine; decide), fun tq htq => ⟨(by show 1 ≤ sizeLine; decide), fun lq hlq => ?_⟩⟩
          have ntl : tq ≠ lq := fun z => by rw [← z, upd_same] at hlq; cases hlq
          have s9 := (Same.upd (o := .tup [.int (now + tk), .int 0, .str "wake"]) htq).trans (Same.upd (o := .lst [.ref tq]) hlq)
          refine ⟨_, _, rr3.den.same (b15.same.trans s9), .lst (SqL.of upd_same) (.cons (.tup (SqT.of (by rw [upd_ne ntl]; exact upd_same)) (.cons (.int _) (.cons (.int _) (.cons (.str _) .nil)))) .nil), shT _, shT _, _, rfl, ?_⟩
          rw [show PyData.eqv (.list (([(now + tk, 0, ("wake" : Str))] : List (Int × Int × Str)).map ringD)) (.list [.tuple [.int (now + tk), .int 0, .str "wake"]]) = true from eqv_self (shT _)]
          have b16 := (b15.weak sS3).up s9
          obtain ⟨dx16, r16, x16, y16, w51, w52, w53, w54, hob16⟩ := b16.ob
          refine iteT ⟨_, rfl, _, _, _, rfl, hob16, rfl, Hb, p, _, rfl, b16, fun H13 lw2 out2 hlw2 b17 hN2 => ?_⟩
          have eo2 : out2 = [] := List.eq_nil_iff_forall_not_mem.mpr fun y hy => by have := (hN2.2 y).mp hy; cases this
          subst eo2
          refine ⟨(by show 0 ≤ sizeLine; decide), fun q8 hq8 => ?_⟩
          have s10 := Same.upd (o := .lst []) hq8
          refine ⟨_, _, ints_den (ns := []) (s10 _ _ (b17.same _ _ upd_same)), ints_den (ns := []) upd_same, shN, shN, _, rfl, ?_⟩
          rw [show PyData.eqv (.list (([] : List Int).map PyData.int)) (.list (([] : List Int).map PyData.int)) = true from eqv_self shN]
          have b18 := (b17.weak (Same.upd hlw2)).up s10
          refine iteT ⟨_, rfl, _, rfl, _, _, rfl, rfl, .inl ⟨by decide, by decide⟩, Hb, p, _, 3 * sp, rfl, b18, lg _ (by omega) (by omega), fun z => (by omega), fun _ => ⟨mu_none _, fun H14 H1s lr4 rs4 g4 sS4 hl4 rr4 b19 run4 => ?_⟩⟩
          obtain ⟨rfl, rfl⟩ := runs_none run4
          refine ⟨(by show 0 ≤ sizeLine; decide), fun q9 hq9 => ?_⟩
          have s11 := Same.upd (o := .lst []) hq9
          refine ⟨_, _, rr4.den.same (b19.same.trans s11), ints_den (ns := []) upd_same, shN, shN, ?_⟩
          rw [show PyData.eqv (.list (([] : List (Int × Int × Str)).map ringD)) (.list (([] : List Int).map PyData.int)) = true from eqv_self shN]
          exact k _
end
end Tk
end
section
namespace Tk
open PySem L2
theorem law_end {P : Program} {w : World} {K : PySem.W.Frag} {mg : Str → Option Value} {fa : Addr} (TT : ∃ a, Txt K mg a) (hmg : mg "law" = some (.ref fa)) :
    ∃ fd : FuncData, (∀ (s : Shared) (u : Value), BindsTo s fd ⟨[u], []⟩ [("_law_script", u)]) ∧ ∀ base : Heap, K.In base → base.Ns mainGlobals mg → FnOk P w K mg base (CXe P w) 40 fa fd ["_law_script"] (spLaw K) := by
  obtain ⟨a, T⟩ := TT
  have e := T.f_law
  rw [hmg] at e
  have e2 : fa = a.f_law := by injection e with e; injection e
  subst e2
  refine ⟨a.fd_law, fun s u => ?_, fun base _ _ => (ok_law T).mono (by decide)⟩
  obtain ⟨oc, od, kV, doc, pm, an, cdv, ct, osl, efd, lk, hcd⟩ := T.F_law.ex
  rw [efd]
  exact .of_eq rfl
theorem walk {l : PySem.W.OpenLaw} {q : Program} {loose : List Str} {XP : (Str → Option Value) → Heap → Prop} {YP : World → Heap → Prop} {d : DefRec} {K : Params → PySem.W.Frag} {k : Nat} (hn : l.most = some 63) (hdf : d.params.defaults = []) (hr : Room k callerA)
    (hY : ∀ (w : World) (h : Heap), YP w h → (K w.params).In h)
    (F : ∀ (w : World) (mg : Str → Option Value) (fa : Addr) (h : Heap), (K w.params).In h → h.Ns mainGlobals mg → mg d.name = some (.ref fa) →
      ∃ fd : FuncData, (∀ (s : Shared) (u : Value), BindsTo s fd ⟨[u], []⟩ [("_law_script", u)]) ∧ ∀ base : Heap, (K w.params).In base → base.Ns mainGlobals mg → FnOk l.prog w (K w.params) mg base (CXe l.prog w) k fa fd ["_law_script"] (spLaw (K w.params))) :
    PySem.W.WalkO q loose XP YP l.row.toRowW d [] (fun f vs => PySem.call f vs) :=
  L2.walk_of (n := 63) (k := k) (x := "_law_script") (CX := fun w => CXe l.prog w) (sp := fun w => spLaw (K w.params)) hn (by decide) hdf hr hY F (fun _ _ a ns hl _ hS => ⟨a, ns, rfl, hS, hl, fun _ => rfl⟩) fun _ _ _ _ _ z => CXe.no z
end Tk
end
open PySem PySem.W PyProof.Rows
def PySem.W.Fast.tw5049868846949161136 : Nat := 0
def PySem.W.Fast.tw9277429378079385203 : Nat := 0
def PySem.W.Fast.tw8497844317898117279 : Nat := 0
def PySem.W.Fast.tw13526225066561232431 : Nat := 0
def PySem.W.Fast.tw7634110774790291011 : Nat := 0
def PySem.W.Fast.tw1416436290006008974 : Nat := 0
def PySem.W.Fast.tw15796221303384033782 : Nat := 0
def PySem.W.Fast.tw8150373039403475940 : Nat := 0
def PySem.W.Fast.tw8369185191936322276 : Nat := 0
set_option maxRecDepth 100000 in
set_option maxHeartbeats 0 in
theorem PySem.Challenge.cw_tickbook_k01_one_alarm_holds : PySem.Challenge.rw_tickbook_k01_one_alarm.Holds := by
  w_on; o_law; k_head; (case hw => w_witness2)
  k_fill
  refine Tk.walk (k := 40) (l := PySem.Challenge.rw_tickbook_k01_one_alarm) rfl rfl ⟨rfl, by decide, by decide⟩ (fun w h Y => PySem.W.kIn_of Y) ?F
  case F =>
    intro w mg fa h KX G hmg
    have TT : ∃ a, Tk.Txt (L2.KOf KX) mg a := by
      dsimp only [L2.KOf]
      refine' Tk.txt_mk KX G ?e1 ?e2 ?e3 ?e4 ?e5 ?e6 ?e7 ?e8 ?e9 ?e10 ?e11 ?e12 ?e13 ?e14 ?e15 ?e16 ?e17 ?e18 ?e19 ?e20 ?e21 ?e22 ?e23 ?e24 ?e25 ?e26 ?e27 ?e28 ?e29 ?e30 ?e31 ?e32 ?e33 ?e34 ?e35 ?e36 ?e37 ?e38 ?e39 ?e40 ?e41 ?e42 ?e43 ?e44 ?e45 ?e46 ?e47 ?e48 ?e49 ?e50 ?e51 ?e52 ?e53 ?e54 ?e55 ?e56 ?e57 ?e58 ?e59 ?e60 ?e61 ?e62 ?e63 ?e64 ?e65 ?e66 ?e67 ?e68 ?e69 ?e70 ?e71 ?e72 ?e73 ?e74 ?e75 ?e76 ?e77 ?e78 ?e79 ?e80 ?e81 ?e82 ?e83 ?e84 ?e85 ?e86 ?e87 ?e88 ?e89 ?e90 ?e91 ?e92 ?e93 ?e94 ?e95 ?e96 ?e97 ?e98 ?e99 ?e100 ?e101 ?e102 ?e103 ?e104 ?e105 ?e106 ?e107 ?e108 ?e109 ?e110 ?e111 ?e112 ?e113 ?e114 ?e115 ?e116 ?e117 ?e118 ?e119 ?e120 ?e121 ?e122 ?e123 ?e124 ?e125 ?e126 ?e127 ?e128 ?e129 ?e130 ?e131 ?e132 ?e133 ?e134 ?e135 ?e136 ?e137 ?e138 ?e139 ?e140 ?e141 ?e142 ?e143 ?e144 ?e145 ?e146 ?e147 ?e148 ?e149 ?e150 ?e151 ?e152 ?e153 ?e154 ?e155 ?e156 ?e157 ?e158 ?e159 ?e160 ?e161 ?e162 ?e163 ?e164 ?e165 ?e166 ?e167 ?e168 ?e169 ?e170 ?e171 ?e172 ?e173 ?e174 ?e175 ?e176 ?e177 ?e178 ?e179 ?e180 ?e181 ?e182 ?e183 ?e184 ?e185 ?e186 ?e187 ?e188 ?e189 ?e190 ?e191 ?e192 ?e193 ?e194 ?e195 ?e196 ?e197 ?e198 ?e199 ?e200 ?e201 ?e202 ?e203 ?e204 ?e205 ?e206 ?e207 ?e208 ?e209 ?e210 ?e211 ?e212 ?e213 ?e214 ?e215 ?e216 ?e217 ?e218 ?e219 ?e220 ?e221 ?e222 ?e223 ?e224 ?e225 ?e226 ?e227 ?e228 ?e229 ?e230 ?e231 ?e232 ?e233 ?e234 ?e235 ?e236 ?e237 ?e238 ?e239 ?e240 ?e241 ?e242 ?e243 ?e244 ?e245 ?e246 ?e247 ?e248 ?e249 ?e250 ?e251 ?e252 ?e253 ?e254 ?e255 ?e256 ?e257 ?e258 ?e259 ?e260 ?e261 ?e262 ?e263 ?e264 ?e265 ?e266 ?e267 ?e268 ?e269 ?e270 ?e271 ?e272 ?e273 ?e274 ?e275 ?e276 ?e277 ?e278 ?e279 ?e280 ?e281 ?e282 ?e283 ?e284 ?e285 ?e286 ?e287 ?e288 ?e289
      (case e1 => k_is)
      (case e2 => k_is)
      (case e3 => k_is)
      (case e4 => k_is)
      (case e5 => k_is)
      (case e6 => k_is)
      (case e7 => k_is)
      (case e8 => k_is)
      (case e9 => k_is)
      (case e10 => k_is)
      (case e11 => k_is)
      (case e12 => k_is)
      (case e13 => k_is)
      (case e14 => k_is)
      (case e15 => k_is)
      (case e16 => k_is)
      (case e17 => k_is)
      (case e18 => k_is)
      (case e19 => k_is)
      (case e20 => k_is)
      (case e21 => k_is)
      (case e22 => k_is)
      (case e23 => k_is)
      (case e24 => k_is)
      (case e25 => k_is)
      (case e26 => k_is)
      (case e27 => k_is)
      (case e28 => k_is)
      (case e29 => k_is)
      (case e30 => k_is)
      (case e31 => k_is)
      (case e32 => k_is)
      (case e33 => k_is)
      (case e34 => k_is)
      (case e35 => k_is)
      (case e36 => k_exc)
      (case e37 => k_is)
      (case e38 => k_is)
      (case e39 => k_is)
      (case e40 => k_is)
      (case e41 => k_is)
      (case e42 => k_is)
      (case e43 => k_is)
      (case e44 => k_is)
      (case e45 => k_is)
      (case e46 => k_is)
      (case e47 => k_exc)
      (case e48 => k_is)
      (case e49 => k_is)
      (case e50 => k_is)
      (case e51 => k_is)
      (case e52 => k_is)
      (case e53 => k_is)
      (case e54 => k_is)
      (case e55 => k_is)
      (case e56 => k_is)
      (case e57 => k_is)
      (case e58 => k_exc)
      (case e59 => k_is)
      (case e60 => k_is)
      (case e61 => k_is)
      (case e62 => k_is)
      (case e63 => k_is)
      (case e64 => k_is)
      (case e65 => k_is)
      (case e66 => k_is)
      (case e67 => k_is)
      (case e68 => k_is)
      (case e69 => k_exc)
      (case e70 => k_is)
      (case e71 => k_is)
      (case e72 => k_is)
      (case e73 => k_is)
      (case e74 => k_is)
      (case e75 => k_is)
      (case e76 => k_is)
      (case e77 => k_is)
      (case e78 => k_is)
      (case e79 => k_is)
      (case e80 => k_is)
      (case e81 => k_is)
      (case e82 => k_is)
      (case e83 => k_is)
      (case e84 => k_is)
      (case e85 => k_is)
      (case e86 => k_is)
      (case e87 => k_is)
      (case e88 => k_is)
      (case e89 => k_is)
      (case e90 => k_is)
      (case e91 => k_is)
      (case e92 => k_is)
      (case e93 => k_is)
      (case e94 => k_is)
      (case e95 => k_is)
      (case e96 => k_is)
      (case e97 => k_is)
      (case e98 => k_is)
      (case e99 => k_is)
      (case e100 => k_is)
      (case e101 => k_is)
      (case e102 => k_is)
      (case e103 => k_is)
      (case e104 => k_is)
      (case e105 => k_is)
      (case e106 => k_is)
      (case e107 => k_is)
      (case e108 => k_is)
      (case e109 => k_is)
      (case e110 => k_is)
      (case e111 => k_is)
      (case e112 => k_is)
      (case e113 => k_is)
      (case e114 => k_is)
      (case e115 => k_is)
      (case e116 => k_is)
      (case e117 => k_is)
      (case e118 => k_is)
      (case e119 => k_is)
      (case e120 => k_is)
      (case e121 => k_is)
      (case e122 => k_is)
      (case e123 => k_is)
      (case e124 => k_is)
      (case e125 => k_is)
      (case e126 => k_is)
      (case e127 => k_is)
      (case e128 => k_is)
      (case e129 => k_is)
      (case e130 => k_is)
      (case e131 => k_is)
      (case e132 => k_is)
      (case e133 => k_is)
      (case e134 => k_is)
      (case e135 => k_is)
      (case e136 => k_is)
      (case e137 => k_is)
      (case e138 => k_is)
      (case e139 => k_is)
      (case e140 => k_is)
      (case e141 => k_is)
      (case e142 => k_is)
      (case e143 => k_is)
      (case e144 => k_is)
      (case e145 => k_is)
      (case e146 => k_is)
      (case e147 => k_is)
      (case e148 => k_is)
      (case e149 => k_is)
      (case e150 => k_is)
      (case e151 => k_is)
      (case e152 => k_is)
      (case e153 => k_is)
      (case e154 => k_is)
      (case e155 => k_is)
      (case e156 => k_is)
      (case e157 => k_is)
      (case e158 => k_is)
      (case e159 => k_is)
      (case e160 => k_is)
      (case e161 => k_is)
      (case e162 => k_is)
      (case e163 => k_is)
      (case e164 => k_is)
      (case e165 => k_is)
      (case e166 => k_is)
      (case e167 => k_is)
      (case e168 => k_is)
      (case e169 => k_is)
      (case e170 => k_is)
      (case e171 => k_is)
      (case e172 => k_is)
      (case e173 => k_is)
      (case e174 => k_is)
      (case e175 => k_is)
      (case e176 => k_is)
      (case e177 => k_is)
      (case e178 => k_is)
      (case e179 => k_is)
      (case e180 => k_is)
      (case e181 => k_is)
      (case e182 => k_is)
      (case e183 => k_is)
      (case e184 => k_is)
      (case e185 => k_is)
      (case e186 => k_is)
      (case e187 => k_is)
      (case e188 => k_is)
      (case e189 => k_is)
      (case e190 => k_is)
      (case e191 => k_is)
      (case e192 => k_is)
      (case e193 => k_is)
      (case e194 => k_is)
      (case e195 => k_is)
      (case e196 => k_is)
      (case e197 => k_is)
      (case e198 => k_is)
      (case e199 => k_is)
      (case e200 => k_is)
      (case e201 => k_is)
      (case e202 => k_is)
      (case e203 => k_is)
      (case e204 => k_is)
      (case e205 => k_is)
      (case e206 => k_is)
      (case e207 => k_is)
      (case e208 => k_is)
      (case e209 => k_is)
      (case e210 => k_is)
      (case e211 => k_is)
      (case e212 => k_is)
      (case e213 => k_is)
      (case e214 => k_is)
      (case e215 => k_is)
      (case e216 => k_is)
      (case e217 => k_is)
      (case e218 => k_is)
      (case e219 => k_is)
      (case e220 => k_is)
      (case e221 => k_is)
      (case e222 => k_is)
      (case e223 => k_is)
      (case e224 => k_is)
      (case e225 => k_is)
      (case e226 => k_is)
      (case e227 => k_is)
      (case e228 => k_is)
      (case e229 => k_is)
      (case e230 => k_is)
      (case e231 => k_is)
      (case e232 => k_is)
      (case e233 => k_is)
      (case e234 => k_is)
      (case e235 => k_is)
      (case e236 => k_is)
      (case e237 => k_is)
      (case e238 => k_is)
      (case e239 => k_is)
      (case e240 => k_is)
      (case e241 => k_is)
      (case e242 => k_is)
      (case e243 => k_is)
      (case e244 => k_is)
      (case e245 => k_is)
      (case e246 => k_is)
      (case e247 => k_is)
      (case e248 => k_is)
      (case e249 => k_is)
      (case e250 => k_is)
      (case e251 => k_is)
      (case e252 => k_is)
      (case e253 => k_is)
      (case e254 => k_is)
      (case e255 => k_is)
      (case e256 => k_is)
      (case e257 => k_is)
      (case e258 => k_is)
      (case e259 => k_is)
      (case e260 => k_is)
      (case e261 => k_is)
      (case e262 => k_is)
      (case e263 => k_is)
      (case e264 => k_is)
      (case e265 => k_is)
      (case e266 => k_is)
      (case e267 => k_is)
      (case e268 => k_is)
      (case e269 => k_is)
      (case e270 => k_is)
      (case e271 => k_is)
      (case e272 => k_is)
      (case e273 => k_is)
      (case e274 => k_is)
      (case e275 => k_is)
      (case e276 => k_is)
      (case e277 => k_is)
      (case e278 => k_is)
      (case e279 => k_is)
      (case e280 => k_is)
      (case e281 => k_is)
      (case e282 => k_is)
      (case e283 => k_is)
      (case e284 => k_is)
      (case e285 => k_is)
      (case e286 => k_is)
      (case e287 => k_is)
      (case e288 => k_is)
      (case e289 => k_is)
    exact Tk.law_end TT hmg
