import PyProof.Rows.All
import Wide.All
import OpenK.AllK
import Wide.FinOn
import Lean
import PyProof.EqAt
import PyProof.EqKinds
import PyProof.TupleCall
import PySem.Challenge.RW_tickbook_k11_where
set_option Elab.async false
set_option linter.all false
set_option maxRecDepth 100000
section
namespace L2
open PySem PySem.Spec PyProof.Rows
abbrev Key := Sum Int Str
def RK : Key → Value → Bool
 | .inl k, v => Value.isInt k v
 | .inr x, v => Value.isStrOf x v
def keyH (w : World) : Key → Int
 | .inl k => hashInt k
 | .inr x => hashStr w x
theorem Yl : ∀ {k : Key} {v : Value}, RK k v = true → (∃ i t, k = Sum.inl i ∧ v = Value.int i t) ∨ (∃ x t, k = Sum.inr x ∧ v = Value.str x t)
 | .inl i, v, h => by
   obtain ⟨t, e⟩ := Value.isInt_shape (k := i) (v := v) h
   exact .inl ⟨i, t, rfl, e⟩
 | .inr x, v, h => by
   obtain ⟨t, e⟩ := Value.isStrOf_shape (x := x) (v := v) h
   exact .inr ⟨x, t, rfl, e⟩
theorem keyIs_int (i : Int) (t : Tok) : RK (.inl i) (.int i t) = true := by simp [RK, Value.isInt]
theorem keyIs_str (x : Str) (t : Tok) : RK (.inr x) (.str x t) = true := by simp [RK, Value.isStrOf]
theorem key_ll (a b : Int) : decide ((Sum.inl a : Key) = Sum.inl b) = (a == b) := by
 by_cases e : a = b
 · subst e; simp
 · have h : ¬ (Sum.inl a : Key) = Sum.inl b := fun q => e (Sum.inl.inj q)
   rw [decide_eq_false h]
   exact (beq_eq_false_iff_ne.mpr e).symm
theorem key_rr (a b : Str) : decide ((Sum.inr a : Key) = Sum.inr b) = decide (a = b) := by
 by_cases e : a = b
 · subst e; simp
 · have h : ¬ (Sum.inr a : Key) = Sum.inr b := fun q => e (Sum.inr.inj q)
   rw [decide_eq_false h, decide_eq_false e]
theorem key_lr (a : Int) (b : Str) : decide ((Sum.inl a : Key) = Sum.inr b) = false := decide_eq_false (fun q => nomatch q)
theorem key_rl (a : Str) (b : Int) : decide ((Sum.inr a : Key) = Sum.inl b) = false := decide_eq_false (fun q => nomatch q)
def ZH (prog : Program) (w : World) : PySem.KeyKind prog w Key where
 is := RK
 hash := keyH w
 inj := fun v a b ha hb => by
   rcases Yl ha with ⟨i, t, rfl, rfl⟩ | ⟨x, t, rfl, rfl⟩
   · rcases Yl hb with ⟨j, u, rfl, e⟩ | ⟨y, u, rfl, e⟩
     · injection e with e1 _; rw [e1]
     · exact nomatch e
   · rcases Yl hb with ⟨j, u, rfl, e⟩ | ⟨y, u, rfl, e⟩
     · exact nomatch e
     · injection e with e1 _; rw [e1]
 byValue := fun k v h => by
   rcases Yl h with ⟨i, t, rfl, rfl⟩ | ⟨x, t, rfl, rfl⟩ <;> rfl
 pyHash := fun hv h => by
   rcases Yl hv with ⟨i, t, rfl, rfl⟩ | ⟨x, t, rfl, rfl⟩
   · exact wpAny_pyHash_int h
   · exact wpAny_pyHash_str h
 eqBool := fun hu hv h => by
   rcases Yl hu with ⟨i, t, rfl, rfl⟩ | ⟨x, t, rfl, rfl⟩
   · rcases Yl hv with ⟨j, u, rfl, rfl⟩ | ⟨y, u, rfl, rfl⟩
     · rw [key_ll] at h; exact wpAny_eqBool_int h
     · rw [key_lr] at h; exact SeqAt.EqAt.int_str i t y u _ _ _ _ h
   · rcases Yl hv with ⟨j, u, rfl, rfl⟩ | ⟨y, u, rfl, rfl⟩
     · rw [key_rl] at h; exact SeqAt.EqAt.str_int x t j u _ _ _ _ h
     · rw [key_rr] at h; exact wpAny_eqBool_str h
 «strs» := fun k x t v h => by
   rcases Yl h with ⟨i, u, rfl, e⟩ | ⟨y, u, rfl, e⟩
   · exact nomatch e
   · injection e with e1 _
     subst e1
     cases v <;> rfl
theorem mixKind_int (prog : Program) (w : World) (i : Int) (t : Tok) : (ZH prog w).is (.inl i) (.int i t) = true := keyIs_int i t
theorem mixKind_str (prog : Program) (w : World) (x : Str) (t : Tok) : (ZH prog w).is (.inr x) (.str x t) = true := keyIs_str x t
end L2
namespace L2
open PySem PySem.Spec PyProof.Rows
inductive V where
 | non | bl (b : Bool) | int (i : Int) | str (x : Str) | byt (b : Array UInt8) | flt (b : UInt64) | ref (a : Addr) | ty (n : String)
 deriving DecidableEq
def RelV : V → Value → Prop
 | .non, u => u = Value.none
 | .bl b, u => u = Value.bool b
 | .int i, u => ∃ t, u = Value.int i t
 | .str x, u => ∃ t, u = Value.str x t
 | .byt b, u => ∃ t, u = Value.bytes b t
 | .flt b, u => ∃ t, u = Value.float b t
 | .ref a, u => u = Value.ref a
 | .ty n, u => u = Value.type n
abbrev Vals : List V → List Value → Prop := Paired RelV
theorem Vals.length {xs : List V} {us : List Value} (r : Vals xs us) : xs.length = us.length := Paired.length r
theorem Vals.get : ∀ {xs : List V} {us : List Value} {i : Nat} {x : V}, Vals xs us → xs[i]? = some x → ∃ u, us[i]? = some u ∧ RelV x u
 | _, _, _, _, .nil, e => by simp at e
 | _, _, 0, _, .cons r _, e => by simp at e; subst e; exact ⟨_, rfl, r⟩
 | _, _, i + 1, x, .cons _ t, e => by
   obtain ⟨u, h1, h2⟩ := Vals.get (i := i) (x := x) t (by simpa using e)
   exact ⟨u, by simpa using h1, h2⟩
theorem Vals.append : ∀ {xs ys : List V} {us ws : List Value}, Vals xs us → Vals ys ws → Vals (xs ++ ys) (us ++ ws)
 | _, _, _, _, .nil, s => s
 | _, _, _, _, .cons r t, s => .cons r (Vals.append t s)
theorem Vals.take : ∀ {xs : List V} {us : List Value} (n : Nat), Vals xs us → Vals (xs.take n) (us.take n)
 | _, _, 0, _ => .nil
 | _, _, _ + 1, .nil => .nil
 | _, _, n + 1, .cons r t => .cons r (Vals.take n t)
theorem Vals.drop : ∀ {xs : List V} {us : List Value} (n : Nat), Vals xs us → Vals (xs.drop n) (us.drop n)
 | _, _, 0, r => r
 | _, _, _ + 1, .nil => .nil
 | _, _, n + 1, .cons _ t => Vals.drop n t
def RelO : Option V → Option Value → Prop
 | some v, some u => RelV v u
 | none, none => True
 | _, _ => False
def KV {κ : Type} : List (κ × V) → List (κ × Value) → Prop := Paired fun (p : κ × V) (q : κ × Value) => p.1 = q.1 ∧ RelV p.2 q.2
def kV : Key → V
 | .inl i => .int i
 | .inr x => .str x
inductive HO where
 | lst (xs : List V)
 | tup (xs : List V)
 | dK (kvs : List (Key × V)) | dT (kvs : List (List Key × V))
 | set (S : Int → Bool) (n : Nat)
 | ins (C dx : Addr) (fs : List (Str × V))
 | own (x : Addr)
 | xd (fs : List (Str × V))
 | met (f x : Addr)
 | rng (lo hi : Int)
 | frz (o : Obj) (u : HO)
 | tbl (ps : Array Value)
 | ext (φ : Heap → Prop)
abbrev Hp := Addr → Option HO
def upd (H : Hp) (a : Addr) (o : HO) : Hp := fun b => if b = a then some o else H b
theorem Zb {H : Hp} {a : Addr} {o : HO} : upd H a o a = some o := by unfold upd; rw [if_pos rfl]
theorem Zc {H : Hp} {a b : Addr} {o : HO} (h : b ≠ a) : upd H a o b = H b := by unfold upd; rw [if_neg h]
theorem upd_upd {H : Hp} {a : Addr} {o u : HO} : upd (upd H a o) a u = upd H a u := by
 funext b; unfold upd; split <;> rfl
theorem ne_of {H : Hp} {a b : Addr} {o u : HO} (h : H a = some o) (h' : H b = some u) (d : o ≠ u) : a ≠ b := by
 intro e; subst e; rw [h] at h'; exact d (Option.some.inj h')
theorem Zn {H : Hp} {a b : Addr} {o : HO} (h : H a = some o) (h' : H b = none) : a ≠ b := by
 intro e; subst e; rw [h] at h'; cases h'
section
variable (P : Program) (w : World)
def ObjOk (H : Hp) (h : Heap) (a : Addr) : HO → Prop
 | .lst xs => xs.length ≤ sizeLine ∧ ∃ (its : List Value) (n : Nat), Vals xs its ∧ h.get? a = some { cls := .type "list", data := .seq its.toArray n }
 | .tup xs => xs.length ≤ sizeLine ∧ ∃ its : List Value, Vals xs its ∧ IsTup h a its.toArray
 | .dK kvs => kvs.length ≤ sizeLine ∧ (a == sysModules) = false ∧ ∃ vs, KV kvs vs ∧ h.DictOf (ZH P w) a vs
 | .dT kvs => kvs.length ≤ sizeLine ∧ (a == sysModules) = false ∧ ∃ xs : List (List Key × Addr × Value),
     Paired (fun (p : List Key × V) (q : List Key × Addr × Value) => p.1 = q.1 ∧ H q.2.1 = some (.tup (p.1.map kV)) ∧ RelV p.2 q.2.2) kvs xs ∧
     ∃ o es ep, h.get? a = some o ∧ o.ExactDict ∧ o.data = .dict es ep ∧ es.toList = xs.map (entryOfKey (tupleKind (ZH P w))) ∧ (xs.map (·.1)).Nodup
 | .set S n => h.SetOf (intKind P w) a S n
 | .ins C dx fs => H dx = some (.own a) ∧ fs.length ≤ 1000 ∧ dx ≠ a ∧ h.get? a = some (W.instObj C dx) ∧
     ∃ mA, h.Ns1 dx mA ∧ (∀ f, RelO (fs.lookup f) (mA f)) ∧ PySem.Within mA (fs.map (·.1))
 | .own _ => ∃ o, h.get? a = some o
 | .xd fs => ∃ mA, h.Ns1 a mA ∧ ∀ f, RelO (fs.lookup f) (mA f)
 | .rng lo hi => ∃ t u v, h.get? a = some { cls := .type "range", data := .fields #[.int lo t, .int hi u, .int 1 v] }
 | .frz o u => h.get? a = some o ∧ ObjOk H h a u
 | .tbl ps => h.get? a = some { cls := .none, data := .fields ps }
 | .met f x => h.get? a = some (W.methodObj (.ref f) (.ref x))
 | .ext φ => φ h ∧ (∃ o, h.get? a = some o) ∧ ∀ h1 h2 : Heap, φ h1 → (∀ o, h1.get? a = some o → h2.get? a = some o) → φ h2
def HOk (H : Hp) (h : Heap) : Prop := ∀ a o, H a = some o → ObjOk P w H h a o
end
section
variable {P : Program} {w : World} {H H' : Hp} {h h' : Heap} {a : Addr} {o : HO}
theorem ObjOk.lt (x : ObjOk P w H h a o) : a < h.objs.size := by
 cases o with
 | lst xs => obtain ⟨_, _, _, _, e⟩ := x; exact Heap.lt_size e
 | tup xs => obtain ⟨_, _, _, p⟩ := x; exact p.lt
 | dK kvs => obtain ⟨_, _, _, _, o, _, _, e, _⟩ := x; exact Heap.lt_size e
 | dT kvs => obtain ⟨_, _, _, _, o, _, _, e, _⟩ := x; exact Heap.lt_size e
 | set S n => obtain ⟨o, _, _, _, e, _⟩ := x; exact Heap.lt_size e
 | ins C dx fs => obtain ⟨_, _, _, e, _⟩ := x; exact Heap.lt_size e
 | own y => obtain ⟨_, e⟩ := x; exact Heap.lt_size e
 | xd fs => obtain ⟨_, ⟨_, _, _, e, _⟩, _⟩ := x; exact Heap.lt_size e
 | rng lo hi => obtain ⟨_, _, _, e⟩ := x; exact Heap.lt_size e
 | frz ob u => obtain ⟨e, _⟩ := x; exact Heap.lt_size e
 | tbl ps => exact Heap.lt_size (show h.get? a = some _ from x)
 | met f y => exact Heap.lt_size (show h.get? a = some _ from x)
 | ext φ => obtain ⟨_, ⟨_, e⟩, _⟩ := x; exact Heap.lt_size e
theorem Paired.mapP {α β : Type} {F G : α → β → Prop} : ∀ {l₁ : List α} {l₂ : List β}, Paired F l₁ l₂ → (∀ a b, F a b → G a b) → Paired G l₁ l₂
 | _, _, .nil, _ => .nil
 | _, _, .cons r t, f => .cons (f _ _ r) (Paired.mapP t f)
theorem ObjOk.stay (x : ObjOk P w H h a o) (k : ∀ b u, (b = a ∨ H b = some (.own a)) → h.get? b = some u → h'.get? b = some u)
   (ho : ∀ b, H b = some (.own a) → H' b = some (.own a)) (ht : ∀ b xs, H b = some (.tup xs) → H' b = some (.tup xs)) : ObjOk P w H' h' a o := by
 induction o with
 | lst xs => obtain ⟨z, its, n, r, e⟩ := x; exact ⟨z, its, n, r, k _ _ (.inl rfl) e⟩
 | tup xs => obtain ⟨z, its, r, ob, e, c⟩ := x; exact ⟨z, its, r, ob, k _ _ (.inl rfl) e, c⟩
 | dK kvs => obtain ⟨z, y, vs, r, ob, es, ep, e, c⟩ := x; exact ⟨z, y, vs, r, ob, es, ep, k _ _ (.inl rfl) e, c⟩
 | dT kvs =>
   obtain ⟨z, y, xs, r, ob, es, ep, e, c⟩ := x
   exact ⟨z, y, xs, Paired.mapP r fun p q z => ⟨z.1, ht _ _ z.2.1, z.2.2⟩, ob, es, ep, k _ _ (.inl rfl) e, c⟩
 | set S n => obtain ⟨ob, es, ep, t, e, c⟩ := x; exact ⟨ob, es, ep, t, k _ _ (.inl rfl) e, c⟩
 | ins C dx fs =>
   obtain ⟨d, z, ne, e, mA, ⟨od, es, ep, e2, c⟩, r⟩ := x
   exact ⟨ho _ d, z, ne, k _ _ (.inl rfl) e, mA, ⟨od, es, ep, k _ _ (.inr d) e2, c⟩, r⟩
 | own y => obtain ⟨ob, e⟩ := x; exact ⟨ob, k _ _ (.inl rfl) e⟩
 | xd fs => obtain ⟨mA, ⟨od, es, ep, e, c⟩, r⟩ := x; exact ⟨mA, ⟨od, es, ep, k _ _ (.inl rfl) e, c⟩, r⟩
 | rng lo hi => obtain ⟨t, u, v, e⟩ := x; exact ⟨t, u, v, k _ _ (.inl rfl) e⟩
 | frz ob u ih => obtain ⟨e, q⟩ := x; exact ⟨k _ _ (.inl rfl) e, ih q⟩
 | tbl ps =>
   have e : h.get? a = some { cls := .none, data := .fields ps } := x
   show h'.get? a = some { cls := .none, data := .fields ps }
   exact k a _ (.inl rfl) e
 | met f y =>
   have e : h.get? a = some (W.methodObj (.ref f) (.ref y)) := x
   show h'.get? a = some (W.methodObj (.ref f) (.ref y))
   exact k a _ (.inl rfl) e
 | ext φ => obtain ⟨p, ⟨o, e⟩, st⟩ := x; exact ⟨st _ _ p fun o q => k _ _ (.inl rfl) q, ⟨o, k _ _ (.inl rfl) e⟩, st⟩
theorem HOk.lt (x : HOk P w H h) (e : H a = some o) : a < h.objs.size := (x a o e).lt
theorem HOk.fresh (x : HOk P w H h) (e : h.objs.size ≤ a) : H a = none := by
 cases q : H a with
 | none => rfl
 | some u => exact absurd (Nat.lt_of_lt_of_le (x.lt q) e) (Nat.lt_irrefl _)
theorem HOk.kept (x : HOk P w H h) (k : ∀ b u, h.get? b = some u → h'.get? b = some u) : HOk P w H h' := fun a o e =>
 (x a o e).stay (fun b u _ q => k b u q) (fun _ q => q) fun _ _ q => q
theorem HOk.laid (x : HOk P w H h) (k : ∀ b u, h.get? b = some u → h'.get? b = some u) (hp : h.objs.size ≤ a) (new : ObjOk P w (upd H a o) h' a o) : HOk P w (upd H a o) h' := fun b u e => by
 have hn := x.fresh hp
 by_cases hb : b = a
 · subst hb; rw [Zb] at e; cases e; exact new
 · rw [Zc hb] at e
   exact (x b u e).stay (fun c v _ q => k c v q) (fun c q => by rw [Zc (Zn q hn)]; exact q) fun c xs q => by rw [Zc (Zn q hn)]; exact q
end
def Rd (H : Hp) (a : Addr) (u : HO) : Prop := H a = some u ∨ ∃ o, H a = some (.frz o u)
theorem Rd.ok {P : Program} {w : World} {H : Hp} {h : Heap} {a : Addr} {u : HO} (r : Rd H a u) (x : HOk P w H h) : ObjOk P w H h a u := by
 rcases r with r | ⟨o, r⟩
 · exact x a u r
 · obtain ⟨_, q⟩ := x a _ r
   exact q
def Mut : Option HO → Prop
 | some (.lst _) => True
 | some (.dK _) => True
 | some (.dT _) => True
 | some (.set _ _) => True
 | some (.ins _ _ _) => True
 | some (.ext _) => True
 | _ => False
section
variable {P : Program} {w : World} {H : Hp} {h h' : Heap} {x e : Addr} {o' : HO}
theorem HOk.write (ok : HOk P w H h) (mu : Mut (H x)) (he : e = x ∨ H e = some (.own x)) (k : ∀ b u, b ≠ e → h.get? b = some u → h'.get? b = some u) (heo : ∃ u, h'.get? e = some u)
   (new : ObjOk P w (upd H x o') h' x o') : HOk P w (upd H x o') h' := fun b u q => by
 have nown : ∀ c y, H c = some (.own y) → c ≠ x := fun c y r z => by subst z; rw [r] at mu; exact mu
 have ntup : ∀ c xs, H c = some (.tup xs) → c ≠ x := fun c xs r z => by subst z; rw [r] at mu; exact mu
 by_cases hb : b = x
 · subst hb; rw [Zb] at q; cases q; exact new
 · rw [Zc hb] at q
   by_cases hbe : b = e
   · have q' : H b = some (.own x) := by
       rcases he with z | z
       · exact absurd (hbe.trans z) hb
       · rw [hbe]; exact z
     rw [q] at q'; cases q'
     obtain ⟨v, hv⟩ := heo
     exact ⟨v, by rw [hbe]; exact hv⟩
   · refine (ok b u q).stay (fun c v hc r => k c v ?_ r) (fun c r => by rw [Zc (nown c b r)]; exact r) fun c xs r => by rw [Zc (ntup c xs r)]; exact r
     rcases hc with rfl | hc
     · exact hbe
     · rintro rfl
       rcases he with z | z
       · exact nown c b hc z
       · rw [hc] at z; cases z; exact hb rfl
end
structure Un (fs ex : List Addr) (H H' : Hp) (h h' : Heap) : Prop where
 keep : ∀ b o, h.get? b = some o → H b = none → b ∉ fs → b ∉ ex → h'.get? b = some o
 slot : ∀ b o, h.get? b = some o → H b = none → b ∈ fs → b ∉ ex → ∃ sl, h'.get? b = some { o with slots := sl }
 free : ∀ b o, h.get? b = some o → H b = none → b ∉ ex → H' b = none
 there : ∀ b o, h.get? b = some o → b ∉ ex → ∃ o', h'.get? b = some o'
 tups : ∀ b xs, H b = some (.tup xs) → H' b = some (.tup xs)
 frzs : ∀ b o u, H b = some (.frz o u) → H' b = some (.frz o u)
 tbls : ∀ b ps, H b = some (.tbl ps) → ∃ more, H' b = some (.tbl (ps ++ more))
section
variable {fs fs' ex ex' : List Addr} {H H1 H2 : Hp} {h h1 h2 h' : Heap} {a x e : Addr} {o : HO}
theorem Un.any (u : Un fs ex H H1 h h1) {b : Addr} {ob : Obj} (q : h.get? b = some ob) (n : H b = none) (hx : b ∉ ex) : ∃ sl, h1.get? b = some { ob with slots := sl } := by
 by_cases hb : b ∈ fs
 · exact u.slot b ob q n hb hx
 · exact ⟨ob.slots, u.keep b ob q n hb hx⟩
theorem Un.kept (k : ∀ b u, h.get? b = some u → h'.get? b = some u) : Un fs ex H H h h' :=
 ⟨fun b ob q _ _ _ => k b ob q, fun b ob q _ _ _ => ⟨ob.slots, k b ob q⟩, fun _ _ _ n _ => n, fun b ob q _ => ⟨ob, k b ob q⟩, fun _ _ q => q, fun _ _ _ q => q, fun _ ps q => ⟨#[], by rw [q]; simp⟩⟩
theorem Un.refl : Un fs ex H H h h := Un.kept fun _ _ q => q
theorem Un.laid (k : ∀ b u, h.get? b = some u → h'.get? b = some u) (hp : h.objs.size ≤ a) (hn : H a = none) : Un fs ex H (upd H a o) h h' where
 keep := fun b u q _ _ _ => k b u q
 slot := fun b u q _ _ _ => ⟨u.slots, k b u q⟩
 free := fun b u q n _ => by rw [Zc (Nat.ne_of_lt (Nat.lt_of_lt_of_le (Heap.lt_size q) hp))]; exact n
 there := fun b u q _ => ⟨u, k b u q⟩
 tups := fun b xs q => by rw [Zc (Zn q hn)]; exact q
 frzs := fun b u xs q => by rw [Zc (Zn q hn)]; exact q
 tbls := fun b ps q => ⟨#[], by rw [Zc (Zn q hn), q]; simp⟩
theorem Un.write (mu : Mut (H x)) (he : e = x ∨ H e = some (.own x)) (k : ∀ b u, b ≠ e → h.get? b = some u → h'.get? b = some u) (heo : ∃ u, h'.get? e = some u) : Un fs ex H (upd H x o) h h' := by
 have hx : ∀ b, H b = none → b ≠ x := fun b n z => by subst z; rw [n] at mu; exact mu
 have hb : ∀ b, H b = none → b ≠ e := fun b n z => by
   subst z
   rcases he with r | r
   · exact hx b n r
   · rw [n] at r; cases r
 have hm : ∀ b u, H b = some u → ¬ Mut (some u) → b ≠ x := fun b u q nm z => by subst z; rw [q] at mu; exact nm mu
 refine ⟨fun b u q n _ _ => k b u (hb b n) q, fun b u q n _ _ => ⟨u.slots, k b u (hb b n) q⟩, fun b u q n _ => by rw [Zc (hx b n)]; exact n, fun b u q _ => ?_,
   fun b xs q => by rw [Zc (hm b _ q fun z => z)]; exact q, fun b u xs q => by rw [Zc (hm b _ q fun z => z)]; exact q, fun b ps q => ⟨#[], by rw [Zc (hm b _ q fun z => z), q]; simp⟩⟩
 by_cases hbe : b = e
 · subst hbe; exact heo
 · exact ⟨u, k b u hbe q⟩
end
def trk (h : Heap) (H : Hp) : List Addr := (List.range h.objs.size).filter fun a => (H a).isSome
def hidT (h : Heap) (H : Hp) : Heap := W.hideAll h (trk h H)
theorem hidT_size (h : Heap) (H : Hp) : (hidT h H).objs.size = h.objs.size := W.hideAll_size _ _
theorem hidT_get {h : Heap} {H : Hp} {b : Addr} {o : Obj} (e : h.get? b = some o) (n : H b = none) : (hidT h H).get? b = some o :=
 W.hideAll_get _ e fun hm => by
   have q : (H b).isSome = true := (List.mem_filter.mp hm).2
   rw [n] at q; simp at q
theorem of_hidT {h : Heap} {H : Hp} {b : Addr} {o : Obj} (e : (hidT h H).get? b = some o) : h.get? b = some o ∧ H b = none := by
 have e' : h.get? b = some o := W.of_hideAll (trk h H) e
 refine ⟨e', ?_⟩
 cases q : H b with
 | none => rfl
 | some x =>
   have hm : b ∈ trk h H := List.mem_filter.mpr ⟨List.mem_range.mpr (Heap.lt_size e'), by simp [q]⟩
   have z : (hidT h H).get? b = none := W.hideAll_none (trk h H) hm
   rw [z] at e; cases e
end L2
namespace L2
open PySem PySem.Spec PyProof.Rows
structure Mod (K : W.Frag) (mg : Str → Option Value) (base : Heap) : Prop where
 kin : K.In base
 glob : base.Ns mainGlobals mg
 blt : ∃ mb, base.Ns builtinsNs mb ∧ ∀ x : Str, x ≠ "__name__" → mb x = bootBuiltins x
 nolimit : base.NoLimit
structure Cx where
 prog : Program
 w : World
 K : W.Frag
 mg : Str → Option Value
 base : Heap
 A : Around
 N : List Str
 s₀ : Shared
 H₀ : Hp
 env : Env
 outer : List Env
 stack : List Env
 ex : List Addr
 fn : Str → Bool
 calm : Bool
 pn : List (Addr × Obj)
 xe : Value → Shared → Prop
def frs (l : List Env) : List Addr := l.filterMap (·.frame)
abbrev Cx.fs (X : Cx) : List Addr := frs X.outer
def Vis (sc : Scope) (x : Str) : Prop := sc.names.lookup x = some .local ∨ sc.names.lookup x = some .cell ∨ sc.names.lookup x = some .free
def Loc (sc : Scope) (x : Str) : Prop := sc.names.lookup x = some .local ∨ sc.names.lookup x = some .cell
def Look (env : Env) (h : Heap) (m : Str → Option Value) (x : Str) (u : Value) : Prop :=
 (env.kindOf x = some .local ∧ m x = some u) ∨ ((env.kindOf x = some .cell ∨ env.kindOf x = some .free) ∧ ∃ c, env.cells.lookup x = some c ∧ h.IsCell c (some u))
structure Cx.Ok (X : Cx) : Prop where
 mod : Mod X.K X.mg X.base
 kind : X.env.scope.kind = .function
 glob : X.env.globals = mainGlobals
 blt : X.env.builtins = builtinsNs
 above : X.s₀.heap.objs.size ≤ X.env.locals
 inj : ∀ x y c, X.env.cells.lookup x = some c → X.env.cells.lookup y = some c → x = y
 has : ∀ x, (X.env.kindOf x = some .cell ∨ X.env.kindOf x = some .free) → ∃ c, X.env.cells.lookup x = some c
 cab : ∀ x c, X.fn x = true → X.env.cells.lookup x = some c → X.s₀.heap.objs.size ≤ c
 hd : X.calm = true → X.A.handled = none
 frames : X.A.frames = some X.stack
 stk : X.stack = X.outer ∨ (X.stack = X.env :: X.outer ∧ X.env.frame = some X.env.locals)
 exf : ∀ b ∈ X.ex, b ≠ X.env.locals ∧ ∀ x c, X.env.cells.lookup x = some c → c ≠ b
 bs : ∀ b o, X.base.get? b = some o → X.s₀.heap.get? b = some o ∧ X.H₀ b = none
 bsz : X.base.objs.size ≤ X.s₀.heap.objs.size
 noex : ∀ b o, X.base.get? b = some o → b ∉ X.ex
 exfs : ∀ b ∈ X.ex, b ∉ X.fs
 funs : X.s₀.heap.FunFrames X.base X.outer
 frf : ∀ b ∈ X.fs, X.H₀ b = none
structure Inv (X : Cx) (pins : List (Addr × Obj)) (σ : List (Option V)) (H : Hp) (s : Shared) : Prop where
 ok : X.Ok
 os : s.os = X.s₀.os
 bare : AllBare s.gens
 base : Un X.fs X.ex X.H₀ H X.s₀.heap s.heap
 loc : ∃ m, s.heap.Ns X.env.locals m ∧ ∀ (i : Nat) (x : Str) (v : V), X.N[i]? = some x → σ[i]? = some (some v) → Vis X.env.scope x → ∃ u, RelV v u ∧ Look X.env s.heap m x u
 cell : ∀ x c, X.env.cells.lookup x = some c → ∃ v, s.heap.IsCell c v
 free : H X.env.locals = none
 freeC : ∀ x c, X.env.cells.lookup x = some c → H c = none
 pin : ∀ p ∈ X.pn ++ pins, s.heap.get? p.1 = some p.2 ∧ H p.1 = none ∧ p.1 ≠ X.env.locals ∧ p.1 ∉ X.fs ∧ ∀ v, p.2.data ≠ .cell v
 hok : HOk X.prog X.w H s.heap
 len : σ.length = X.N.length
section
variable {X : Cx} {pins : List (Addr × Obj)} {σ : List (Option V)} {H H' : Hp} {s : Shared} {h' : Heap}
theorem Cx.Ok.nofr (ok : X.Ok) {b : Addr} {o : Obj} (e : X.base.get? b = some o) : b ∉ X.fs := fun hb => by
 have := (ok.funs.mem hb).1
 rw [e] at this; cases this
theorem Inv.bs (I : Inv X pins σ H s) : ∀ b o, X.base.get? b = some o → s.heap.get? b = some o ∧ H b = none := fun b o e =>
 ⟨I.base.keep b o (I.ok.bs b o e).1 (I.ok.bs b o e).2 (I.ok.nofr e) (I.ok.noex b o e), I.base.free b o (I.ok.bs b o e).1 (I.ok.bs b o e).2 (I.ok.noex b o e)⟩
theorem Inv.bk (I : Inv X pins σ H s) : ∀ b o, X.base.get? b = some o → s.heap.get? b = some o := fun b o e => (I.bs b o e).1
theorem Inv.mod (I : Inv X pins σ H s) : Mod X.K X.mg X.base := I.ok.mod
theorem Inv.kIn (I : Inv X pins σ H s) : X.K.In s.heap := I.ok.mod.kin.keeps I.bk
theorem Inv.lt (I : Inv X pins σ H s) : X.env.locals < s.heap.objs.size := let ⟨_, hn, _⟩ := I.loc; hn.lt
theorem Inv.sz (I : Inv X pins σ H s) : X.s₀.heap.objs.size ≤ s.heap.objs.size := Nat.le_trans I.ok.above (Nat.le_of_lt I.lt)
theorem Inv.nofs (I : Inv X pins σ H s) {a : Addr} (h : s.heap.objs.size ≤ a) : a ∉ X.fs := fun hb => by
 obtain ⟨_, o, ho, _⟩ := I.ok.funs.mem hb
 exact absurd (Nat.lt_of_lt_of_le (Heap.lt_size ho) (Nat.le_trans I.sz h)) (Nat.lt_irrefl _)
theorem Inv.cne (I : Inv X pins σ H s) : ∀ x c, X.env.cells.lookup x = some c → c ≠ X.env.locals := fun x c e z => by
 obtain ⟨v, o, ho, hd⟩ := I.cell x c e
 obtain ⟨m, ⟨o', es, ep, ho', hd', _⟩, _⟩ := I.loc
 rw [z, ho'] at ho; cases ho; rw [hd'] at hd; cases hd
theorem Inv.funs (I : Inv X pins σ H s) : s.heap.FunFrames X.base X.outer := by
 have all : ∀ (l : List Env), (∀ b ∈ frs l, b ∈ X.fs) → X.s₀.heap.FunFrames X.base l → s.heap.FunFrames X.base l := by
   intro l
   induction l with
   | nil => intro _ _; trivial
   | cons env r ih =>
     intro hs hl
     obtain ⟨hk, ⟨L, o, hf, hn, ho, hd⟩, hr⟩ := hl
     have hL : L ∈ X.fs := hs L (by unfold frs; rw [List.filterMap_cons, hf]; exact List.mem_cons_self)
     obtain ⟨sl, e⟩ := I.base.slot L o ho (I.ok.frf L hL) hL fun z => I.ok.exfs L z hL
     exact ⟨hk, ⟨L, _, hf, hn, e, hd⟩, ih (fun b hb => hs b (by unfold frs; rw [List.filterMap_cons, hf]; exact List.mem_cons_of_mem _ hb)) hr⟩
 exact all X.outer (fun _ hb => hb) I.ok.funs
theorem Inv.stack (I : Inv X pins σ H s) : s.heap.FunFrames X.base X.stack := by
 rcases I.ok.stk with e | ⟨e, hf⟩
 · rw [e]; exact I.funs
 · rw [e]
   obtain ⟨m, hn, _⟩ := I.loc
   refine .cons (by rw [I.ok.kind]; decide) hf hn ?_ I.funs
   exact Heap.get?_none_of_le (Nat.le_trans I.ok.bsz I.ok.above)
theorem Inv.stkSub (I : Inv X pins σ H s) : ∀ b ∈ frs X.stack, b ∈ X.env.locals :: X.fs := fun b hb => by
 rcases I.ok.stk with e | ⟨e, hf⟩
 · rw [e] at hb; exact List.mem_cons_of_mem _ hb
 · rw [e] at hb
   unfold frs at hb
   rw [List.filterMap_cons, hf] at hb
   exact hb
theorem Inv.stkFree (I : Inv X pins σ H s) : ∀ b ∈ frs X.stack, H b = none := fun b hb => by
 rcases List.mem_cons.mp (I.stkSub b hb) with e | hb
 · rw [e]; exact I.free
 · obtain ⟨_, o, ho, _⟩ := I.ok.funs.mem hb
   exact I.base.free b o ho (I.ok.frf b hb) fun z => I.ok.exfs b z hb
theorem Inv.step {g' : Array GenState} {t' : Nat} {d' : Drawn} {ch : List Addr} (I : Inv X pins σ H s)
   (hch : ∀ b ∈ ch, (b ∈ X.ex ∨ X.s₀.heap.objs.size ≤ b) ∧ b ≠ X.env.locals ∧ (∀ x c, X.env.cells.lookup x = some c → c ≠ b) ∧ ∀ p ∈ X.pn ++ pins, p.1 ≠ b)
   (keep : ∀ b o, b ≠ X.env.locals → b ∉ X.fs → b ∉ ch → s.heap.get? b = some o → H b = none → h'.get? b = some o)
   (slot : ∀ b o, b ≠ X.env.locals → b ∈ X.fs → b ∉ ch → s.heap.get? b = some o → H b = none → ∃ sl, h'.get? b = some { o with slots := sl }) (free : ∀ b o, b ∉ ch → s.heap.get? b = some o → H b = none → H' b = none)
   (there : ∀ b o, b ∉ ch → s.heap.get? b = some o → ∃ o', h'.get? b = some o')
   (tups : ∀ b xs, H b = some (.tup xs) → H' b = some (.tup xs)) (frzs : ∀ b o u, H b = some (.frz o u) → H' b = some (.frz o u)) (tbls : ∀ b ps, H b = some (.tbl ps) → ∃ more, H' b = some (.tbl (ps ++ more)))
   (ns : ∀ m, s.heap.Ns X.env.locals m → h'.Ns X.env.locals m) (hok : HOk X.prog X.w H' h') (hg : AllBare g') :
   Inv X pins σ H' { s with heap := h', gens := g', drawn := d', toks := t' } := by
 have neL : ∀ b o, X.s₀.heap.get? b = some o → b ≠ X.env.locals := fun b o e => Nat.ne_of_lt (Nat.lt_of_lt_of_le (Heap.lt_size e) I.ok.above)
 have neC : ∀ b o, X.s₀.heap.get? b = some o → b ∉ X.ex → b ∉ ch := fun b o e hx hb => by
   rcases (hch b hb).1 with z | z
   · exact hx z
   · exact absurd (Nat.lt_of_lt_of_le (Heap.lt_size e) z) (Nat.lt_irrefl _)
 have cellK : ∀ x c, X.env.cells.lookup x = some c → ∀ v, s.heap.IsCell c v → h'.IsCell c v := fun x c e v ⟨o, ho, hd⟩ => by
   have nch : c ∉ ch := fun z => (hch c z).2.2.1 x c e rfl
   by_cases hc : c ∈ X.fs
   · obtain ⟨sl, q⟩ := slot c o (I.cne x c e) hc nch ho (I.freeC x c e)
     exact ⟨_, q, hd⟩
   · exact ⟨o, keep c o (I.cne x c e) hc nch ho (I.freeC x c e), hd⟩
 refine ⟨I.ok, I.os, hg, ⟨fun b o e n hb hx => ?_, fun b o e n hb hx => ?_, fun b o e n hx => ?_, fun b o e hx => ?_, fun b xs e => tups b xs (I.base.tups b xs e), fun b o xs e => frzs b o xs (I.base.frzs b o xs e), fun b ps e => ?_⟩, ?_, fun x c e => ?_, ?_, fun x c e => ?_, fun p hp => ?_, hok, I.len⟩
 · exact keep b o (neL b o e) hb (neC b o e hx) (I.base.keep b o e n hb hx) (I.base.free b o e n hx)
 · obtain ⟨sl, e1⟩ := I.base.slot b o e n hb hx
   obtain ⟨sl', e2⟩ := slot b _ (neL b o e) hb (neC b o e hx) e1 (I.base.free b o e n hx)
   exact ⟨sl', e2⟩
 · obtain ⟨o', e1⟩ := I.base.there b o e hx
   exact free b o' (neC b o e hx) e1 (I.base.free b o e n hx)
 · obtain ⟨o', e1⟩ := I.base.there b o e hx
   exact there b o' (neC b o e hx) e1
 · obtain ⟨m1, e1⟩ := I.base.tbls b ps e
   obtain ⟨m2, e2⟩ := tbls b _ e1
   exact ⟨m1 ++ m2, by rw [e2, Array.append_assoc]⟩
 · obtain ⟨m, hn, hl⟩ := I.loc
   refine ⟨m, ns m hn, fun i x v e1 e2 e3 => ?_⟩
   obtain ⟨u, r, l⟩ := hl i x v e1 e2 e3
   refine ⟨u, r, ?_⟩
   rcases l with l | ⟨k, c, e, z⟩
   · exact .inl l
   · exact .inr ⟨k, c, e, cellK x c e _ z⟩
 · obtain ⟨v, z⟩ := I.cell x c e
   exact ⟨v, cellK x c e v z⟩
 · obtain ⟨m, ⟨o, _, _, ho, _⟩, _⟩ := I.loc
   exact free _ o (fun z => (hch _ z).2.1 rfl) ho I.free
 · obtain ⟨v, o, ho, hd⟩ := I.cell x c e
   exact free c o (fun z => (hch c z).2.2.1 x c e rfl) ho (I.freeC x c e)
 · obtain ⟨e, n, ne, nf, d⟩ := I.pin p hp
   have nch : p.1 ∉ ch := fun z => (hch p.1 z).2.2.2 p hp rfl
   exact ⟨keep p.1 p.2 ne nf nch e n, free p.1 p.2 nch e n, ne, nf, d⟩
theorem Inv.un {t' : Nat} (I : Inv X pins σ H s) (u : Un X.fs [] H H' s.heap h') (hok : HOk X.prog X.w H' h') : Inv X pins σ H' { s with heap := h', toks := t' } := by
 obtain ⟨m, ⟨o, es, ep, ho, r⟩, _⟩ := id I.loc
 obtain ⟨sl, hL⟩ := u.any ho I.free (by simp)
 exact I.step (g' := s.gens) (d' := s.drawn) (ch := []) (fun _ z => nomatch z) (fun b o _ hb _ e n => u.keep b o e n hb (by simp)) (fun b o _ hb _ e n => u.slot b o e n hb (by simp)) (fun b o _ e n => u.free b o e n (by simp)) (fun b o _ e => u.there b o e (by simp)) u.tups u.frzs u.tbls (fun m' hm => by
   obtain ⟨o', es', ep', ho', r'⟩ := hm
   rw [ho] at ho'; cases ho'
   exact ⟨_, es', ep', hL, r'⟩) hok I.bare
theorem Inv.call {g' : Array GenState} {t' : Nat} {d' : Drawn} {ch : List Addr} (I : Inv X pins σ H s) (u : Un (frs X.stack) ch H H' s.heap h') (hok : HOk X.prog X.w H' h') (hg : AllBare g')
   (hch : ∀ b ∈ ch, (b ∈ X.ex ∨ X.s₀.heap.objs.size ≤ b) ∧ b ≠ X.env.locals ∧ (∀ x c, X.env.cells.lookup x = some c → c ≠ b) ∧ ∀ p ∈ X.pn ++ pins, p.1 ≠ b) :
   Inv X pins σ H' { s with heap := h', gens := g', drawn := d', toks := t' } := by
 obtain ⟨m, ⟨o, es, ep, ho, r⟩, _⟩ := id I.loc
 obtain ⟨sl, hL⟩ := u.any ho I.free fun z => (hch _ z).2.1 rfl
 exact I.step (ch := ch) hch (fun b o hL hb hc e n => u.keep b o e n (fun z => (List.mem_cons.mp (I.stkSub b z)).elim hL hb) hc) (fun b o _ _ hc e n => u.any e n hc) (fun b o hc e n => u.free b o e n hc) (fun b o hc e => u.there b o e hc) u.tups u.frzs u.tbls (fun m' hm => by
   obtain ⟨o', es', ep', ho', r'⟩ := hm
   rw [ho] at ho'; cases ho'
   exact ⟨_, es', ep', hL, r'⟩) hok hg
theorem Inv.turned {t' : Nat} {it : Addr} (I : Inv X pins σ H s) (k : ∀ b o, b ≠ it → s.heap.get? b = some o → h'.get? b = some o) (hn : H it = none) (hL : it ≠ X.env.locals)
   (h1 : it ∈ X.ex ∨ X.s₀.heap.objs.size ≤ it) (h2 : ∀ x c, X.env.cells.lookup x = some c → c ≠ it) (h3 : ∀ p ∈ X.pn ++ pins, p.1 ≠ it) : Inv X pins σ H { s with heap := h', toks := t' } := by
 have nit : ∀ b u, H b = some u → b ≠ it := fun b u e z => by rw [z, hn] at e; cases e
 refine I.step (g' := s.gens) (d' := s.drawn) (ch := [it]) (fun b hb => ?_) (fun b o _ _ hc e _ => k b o (fun z => hc (by simp [z])) e) (fun b o _ _ hc e _ => ⟨o.slots, k b o (fun z => hc (by simp [z])) e⟩) (fun _ _ _ _ n => n)
   (fun b o hc e => ⟨o, k b o (fun z => hc (by simp [z])) e⟩) (fun _ _ e => e) (fun _ _ _ e => e) (fun b ps e => ⟨#[], by rw [e]; simp⟩) (fun m hm => ?_) (fun b u e => ?_) I.bare
 · have e : b = it := by simpa using hb
   subst e
   exact ⟨h1, hL, h2, h3⟩
 · obtain ⟨o, es, ep, ho, r⟩ := hm
   exact ⟨o, es, ep, k _ o (Ne.symm hL) ho, r⟩
 · refine (I.hok b u e).stay (fun c v hc q => k c v ?_ q) (fun _ q => q) fun _ _ q => q
   rcases hc with z | z
   · rw [z]; exact nit b u e
   · exact nit c _ z
theorem Inv.tok (I : Inv X pins σ H s) (t : Nat) : Inv X pins σ H { s with toks := t } := I.un (h' := s.heap) (t' := t) Un.refl I.hok
theorem Inv.kept {t' : Nat} (I : Inv X pins σ H s) (k : ∀ b u, s.heap.get? b = some u → h'.get? b = some u) : Inv X pins σ H { s with heap := h', toks := t' } := I.un (Un.kept k) (I.hok.kept k)
theorem Inv.laid {a : Addr} {o : HO} {t' : Nat} (I : Inv X pins σ H s) (k : ∀ b u, s.heap.get? b = some u → h'.get? b = some u) (hp : s.heap.objs.size ≤ a) (new : ObjOk X.prog X.w (upd H a o) h' a o) :
   Inv X pins σ (upd H a o) { s with heap := h', toks := t' } := I.un (Un.laid k hp (I.hok.fresh hp)) (I.hok.laid k hp new)
theorem Inv.write {x e : Addr} {o : HO} {t' : Nat} (I : Inv X pins σ H s) (mu : Mut (H x)) (he : e = x ∨ H e = some (.own x)) (k : ∀ b u, b ≠ e → s.heap.get? b = some u → h'.get? b = some u) (heo : ∃ u, h'.get? e = some u)
   (new : ObjOk X.prog X.w (upd H x o) h' x o) : Inv X pins σ (upd H x o) { s with heap := h', toks := t' } := I.un (Un.write mu he k heo) (I.hok.write mu he k heo new)
theorem Inv.weak {σ' : List (Option V)} (I : Inv X pins σ H s) (hl : σ'.length = σ.length) (w : ∀ (i : Nat) v, σ'[i]? = some (some v) → σ[i]? = some (some v)) : Inv X pins σ' H s :=
 ⟨I.ok, I.os, I.bare, I.base, let ⟨m, hn, hl'⟩ := I.loc; ⟨m, hn, fun i x v e1 e2 e3 => hl' i x v e1 (w i v e2) e3⟩, I.cell, I.free, I.freeC, I.pin, I.hok, hl.trans I.len⟩
theorem Inv.pins_of {pins' : List (Addr × Obj)} (I : Inv X pins σ H s) (h : ∀ p ∈ pins', s.heap.get? p.1 = some p.2 ∧ H p.1 = none ∧ p.1 ≠ X.env.locals ∧ p.1 ∉ X.fs ∧ ∀ v, p.2.data ≠ .cell v) : Inv X pins' σ H s :=
 ⟨I.ok, I.os, I.bare, I.base, I.loc, I.cell, I.free, I.freeC, fun p hp => (List.mem_append.mp hp).elim (fun z => I.pin p (List.mem_append_left _ z)) (h p), I.hok, I.len⟩
theorem SG {N : List Str} (hN : N.Nodup) {i j : Nat} {x : Str} (a : N[i]? = some x) (b : N[j]? = some x) : i = j := by
 obtain ⟨h1, e1⟩ := List.getElem?_eq_some_iff.mp a
 obtain ⟨h2, e2⟩ := List.getElem?_eq_some_iff.mp b
 exact (List.getElem_inj hN).mp (e1.trans e2.symm)
theorem Ru {M : Model} {A : Around} {E : Value → Shared → Prop} {i : Nat} {x : Str} {v : V} {u : Value} {Q : Unit → Shared → Prop} (I : Inv X pins σ H s) (hN : X.N.Nodup) (hi : X.N[i]? = some x) (hx : Loc X.env.scope x) (r : RelV v u)
   (h : ∀ s', Inv X pins (σ.set i (some v)) H s' → (∃ a, Heap.SameBut a s.heap s'.heap ∧ (a = X.env.locals ∨ X.env.cells.lookup x = some a)) → Q () s') (hf : X.fn x = true ∨ X.env.scope.names.lookup x = some .local := by first | exact .inl rfl | exact .inr rfl | assumption) : wpAny M A (storeName X.env x u) Q E s := by
 obtain ⟨m, hn, hl⟩ := id I.loc
 have hcls : (X.env.scope.kind == .class || (X.env.scope.kind == .module && X.env.locals != X.env.globals)) = false := by rw [I.ok.kind]; rfl
 have hiσ : i < σ.length := by rw [I.len]; exact (List.getElem?_eq_some_iff.mp hi).1
 have cne := I.cne
 have tracked : ∀ {a : Addr} {h' : Heap}, (∃ o, s.heap.get? a = some o ∧ H a = none) → Heap.SameBut a s.heap h' → HOk X.prog X.w H h' := fun {a h'} ha hs b ob e => by
   obtain ⟨_, _, hfree⟩ := ha
   refine (I.hok b ob e).stay (fun c w' hc q => (hs.2 c ?_).trans q) (fun _ q => q) fun _ _ q => q
   rintro rfl
   rcases hc with rfl | hc
   · rw [hfree] at e; cases e
   · rw [hfree] at hc; cases hc
 rcases hx with hk | hk
 · refine wpAny_storeName_local hk hn (fun h' hn' hs => ?_) hcls
   obtain ⟨oL, _, _, hoL, _⟩ := id hn
   refine h _ ⟨I.ok, I.os, I.bare, ⟨fun b o e n hb hx => ?_, fun b o e n hb hx => ?_, I.base.free, fun b o e hx => ?_, I.base.tups, I.base.frzs, I.base.tbls⟩, ⟨_, hn', fun j y v' e1 e2 e3 => ?_⟩, fun y c e => ?_, I.free, I.freeC, fun p hp => ?_, tracked ⟨oL, hoL, I.free⟩ hs, by simpa using I.len⟩ ⟨_, hs, .inl rfl⟩
   · exact (hs.2 b (Nat.ne_of_lt (Nat.lt_of_lt_of_le (Heap.lt_size e) I.ok.above))).trans (I.base.keep b o e n hb hx)
   · obtain ⟨sl, e1⟩ := I.base.slot b o e n hb hx
     exact ⟨sl, (hs.2 b (Nat.ne_of_lt (Nat.lt_of_lt_of_le (Heap.lt_size e) I.ok.above))).trans e1⟩
   · obtain ⟨o', e1⟩ := I.base.there b o e hx
     exact ⟨o', (hs.2 b (Nat.ne_of_lt (Nat.lt_of_lt_of_le (Heap.lt_size e) I.ok.above))).trans e1⟩
   · by_cases hj : j = i
     · subst hj
       rw [hi] at e1; cases e1
       rw [List.getElem?_set_self hiσ] at e2
       cases e2
       exact ⟨u, r, .inl ⟨hk, by simp⟩⟩
     · rw [List.getElem?_set_ne (Ne.symm hj)] at e2
       obtain ⟨u', r', q⟩ := hl j y v' e1 e2 e3
       refine ⟨u', r', ?_⟩
       rcases q with ⟨k, e⟩ | ⟨k, c, e, z⟩
       · refine .inl ⟨k, ?_⟩
         have : y ≠ x := fun e => hj (SG hN e1 (e ▸ hi))
         simp [this, e]
       · exact .inr ⟨k, c, e, z.sameBut hs (cne y c e)⟩
   · obtain ⟨w', z⟩ := I.cell y c e
     exact ⟨w', z.sameBut hs (cne y c e)⟩
   · obtain ⟨e, n, ne, nf, d⟩ := I.pin p hp
     exact ⟨(hs.2 p.1 ne).trans e, n, ne, nf, d⟩
 · have hfn : X.fn x = true := by
     rcases hf with z | z
     · exact z
     · rw [z] at hk; cases hk
   obtain ⟨c, hc⟩ := I.ok.has x (.inl hk)
   obtain ⟨w', z⟩ := I.cell x c hc
   refine wpAny_storeName_cell I.ok.kind hk hc z (fun h' hc' hs => ?_)
   obtain ⟨oc, hoc, hocd⟩ := id z
   refine h { s with heap := h' } ⟨I.ok, I.os, I.bare, ⟨fun b o e n hb hx => ?_, fun b o e n hb hx => ?_, I.base.free, fun b o e hx => ?_, I.base.tups, I.base.frzs, I.base.tbls⟩, ⟨m, hn.sameBut hs (Ne.symm (cne x c hc)), fun j y v' e1 e2 e3 => ?_⟩, fun y c' e => ?_, I.free, I.freeC, fun p hp => ?_, tracked ⟨oc, hoc, I.freeC x c hc⟩ hs, by simpa using I.len⟩ ⟨c, hs, .inr hc⟩
   · exact (hs.2 b (Nat.ne_of_lt (Nat.lt_of_lt_of_le (Heap.lt_size e) (I.ok.cab x c hfn hc)))).trans (I.base.keep b o e n hb hx)
   · obtain ⟨sl, e1⟩ := I.base.slot b o e n hb hx
     exact ⟨sl, (hs.2 b (Nat.ne_of_lt (Nat.lt_of_lt_of_le (Heap.lt_size e) (I.ok.cab x c hfn hc)))).trans e1⟩
   · obtain ⟨o', e1⟩ := I.base.there b o e hx
     exact ⟨o', (hs.2 b (Nat.ne_of_lt (Nat.lt_of_lt_of_le (Heap.lt_size e) (I.ok.cab x c hfn hc)))).trans e1⟩
   · by_cases hj : j = i
     · subst hj
       rw [hi] at e1; cases e1
       rw [List.getElem?_set_self hiσ] at e2
       cases e2
       exact ⟨u, r, .inr ⟨.inl hk, c, hc, hc'⟩⟩
     · rw [List.getElem?_set_ne (Ne.symm hj)] at e2
       obtain ⟨u', r', q⟩ := hl j y v' e1 e2 e3
       refine ⟨u', r', ?_⟩
       rcases q with q | ⟨k, c', e, z'⟩
       · exact .inl q
       · refine .inr ⟨k, c', e, z'.sameBut hs ?_⟩
         rintro rfl
         exact hj (SG hN e1 (I.ok.inj _ _ _ e hc ▸ hi))
   · by_cases hcc : c' = c
     · subst hcc; exact ⟨_, hc'⟩
     · obtain ⟨w2, z2⟩ := I.cell y c' e
       exact ⟨w2, z2.sameBut hs hcc⟩
   · obtain ⟨e, n, ne, nf, d⟩ := I.pin p hp
     refine ⟨(hs.2 p.1 ?_).trans e, n, ne, nf, d⟩
     intro q
     rw [q, hoc] at e
     have q' : oc = p.2 := Option.some.inj e
     exact d w' (by rw [← q']; exact hocd)
theorem Ub {M : Model} {A : Around} {E : Value → Shared → Prop} {i : Nat} {x : Str} {v : V} {u : Value} {Q : Unit → Shared → Prop} (I : Inv X pins σ H s) (hN : X.N.Nodup) (hi : X.N[i]? = some x) (hx : Loc X.env.scope x) (r : RelV v u)
   (h : ∀ s', Inv X pins (σ.set i (some v)) H s' → Q () s') (hf : X.fn x = true ∨ X.env.scope.names.lookup x = some .local := by first | exact .inl rfl | exact .inr rfl | assumption) : wpAny M A (storeName X.env x u) Q E s :=
 Ru I hN hi hx r (fun s' I' _ => h s' I') hf
theorem Inv.call' {s' : Shared} {ch : List Addr} (I : Inv X pins σ H s) (ho : s'.os = s.os) (u : Un (frs X.stack) ch H H' s.heap s'.heap) (hok : HOk X.prog X.w H' s'.heap) (hg : AllBare s'.gens)
   (hch : ∀ b ∈ ch, (b ∈ X.ex ∨ X.s₀.heap.objs.size ≤ b) ∧ b ≠ X.env.locals ∧ (∀ x c, X.env.cells.lookup x = some c → c ≠ b) ∧ ∀ p ∈ X.pn ++ pins, p.1 ≠ b) : Inv X pins σ H' s' := by
 obtain ⟨h', g', d', t', o'⟩ := s'
 have e : o' = s.os := ho
 subst e
 exact I.call (g' := g') (t' := t') (d' := d') u hok hg hch
end
abbrev XK := Value → Option Addr → Hp → Prop
abbrev St := List (Option V)
abbrev VK := V → Hp → Prop
abbrev TE := St → Hp → VK → Prop
abbrev TT := St → Hp → (Bool → Hp → Prop) → Prop
abbrev TA := St → Hp → (List V → Hp → Prop) → Prop
structure Ends where
 nx : St → Hp → Prop
 rt : VK
 bk : St → Hp → Prop := fun _ _ => False
 ct : St → Hp → Prop := fun _ _ => False
abbrev TS := Ends → St → Hp → Prop
def EP (X : Cx) (pins : List (Addr × Obj)) (σ : St) (Q : VK) (u : Value) (s' : Shared) : Prop := ∃ v H', Inv X pins σ H' s' ∧ RelV v u ∧ Q v H'
def TP (X : Cx) (pins : List (Addr × Obj)) (σ : St) (Q : Bool → Hp → Prop) (b : Bool) (s' : Shared) : Prop := ∃ H', Inv X pins σ H' s' ∧ Q b H'
def AP (X : Cx) (pins : List (Addr × Obj)) (σ : St) (Q : List V → Hp → Prop) (us : List Value) (s' : Shared) : Prop := ∃ vs H', Inv X pins σ H' s' ∧ Vals vs us ∧ Q vs H'
def SP (X : Cx) (pins : List (Addr × Obj)) (D : Ends) (f : Flow) (s' : Shared) : Prop :=
 match f with
 | .next => ∃ σ' H', Inv X pins σ' H' s' ∧ D.nx σ' H'
 | .brk => ∃ σ' H', Inv X pins σ' H' s' ∧ D.bk σ' H'
 | .cont => ∃ σ' H', Inv X pins σ' H' s' ∧ D.ct σ' H'
 | .ret u => ∃ v σ' H', Inv X pins σ' H' s' ∧ RelV v u ∧ D.rt v H'
def PE (X : Cx) (e : Expr) (t : TE) : Prop :=
 ∀ (pins : List (Addr × Obj)) (s : Shared) (σ : St) (H : Hp) (Q : VK), Inv X pins σ H s → t σ H Q → wpAny (model X.prog X.w) X.A (eval e X.env) (EP X pins σ Q) X.xe s
def PT (X : Cx) (e : Expr) (t : TT) : Prop :=
 ∀ (pins : List (Addr × Obj)) (s : Shared) (σ : St) (H : Hp) (Q : Bool → Hp → Prop), Inv X pins σ H s → t σ H Q → wpAny (model X.prog X.w) X.A (isTrue e X.env (eval e X.env)) (TP X pins σ Q) X.xe s
def PW (X : Cx) (e : Expr) (t : TT) : Prop :=
 ∀ (whole : Sem Value) (pins : List (Addr × Obj)) (s : Shared) (σ : St) (H : Hp) (Q : Bool → Hp → Prop), Inv X pins σ H s → t σ H Q → wpAny (model X.prog X.w) X.A (isTrue e X.env whole) (TP X pins σ Q) X.xe s
theorem PW.pt {X : Cx} {e : Expr} {t : TT} (h : PW X e t) : PT X e t := h _
def PA (X : Cx) (es : List Expr) (t : TA) : Prop :=
 ∀ (pos : Pos) (pins : List (Addr × Obj)) (s : Shared) (σ : St) (H : Hp) (Q : List V → Hp → Prop), Inv X pins σ H s → t σ H Q → wpAny (model X.prog X.w) X.A (spliced (backTo pos (starEach es X.env))) (AP X pins σ Q) X.xe s
def PS (X : Cx) (st : Stmt) (t : TS) : Prop :=
 ∀ (pins : List (Addr × Obj)) (s : Shared) (σ : St) (H : Hp) (D : Ends), Inv X pins σ H s → t D σ H → wpAny (model X.prog X.w) X.A (exec st X.env) (SP X pins D) X.xe s
def PSs (X : Cx) (st : List Stmt) (t : TS) : Prop :=
 ∀ (pins : List (Addr × Obj)) (s : Shared) (σ : St) (H : Hp) (D : Ends), Inv X pins σ H s → t D σ H → wpAny (model X.prog X.w) X.A (execs st X.env) (SP X pins D) X.xe s
theorem thn {α : Type} {t : Sem α} {Q Q' : α → Shared → Prop} {M : Model} {A : Around} {E : Value → Shared → Prop} {s : Shared} (h : wpAny M A t Q E s) (hQ : ∀ a s, Q a s → Q' a s) : wpAny M A t Q' E s := wpAny_mono h hQ fun _ _ x => x
end L2
namespace L2
open PySem PySem.Spec PyProof.Rows
section
variable {X : Cx}
def tVar (i : Nat) : TE := fun σ H Q => ∃ v, σ[i]? = some (some v) ∧ Q v H
def tC (v : V) : TE := fun _ H Q => Q v H
theorem pe_var {i : Nat} {x : Str} {pos : Pos} (hN : X.N[i]? = some x) (hv : Vis X.env.scope x) (hd : (x == ("__debug__" : Str)) = false := by decide) (hcd : (x == ("__classdict__" : Str)) = false := by decide) : PE X (.Name x pos) (tVar i) := by
 intro pins s σ H Q I h
 obtain ⟨v, e, h⟩ := h
 obtain ⟨m, hn, hl⟩ := I.loc
 obtain ⟨u, r, l⟩ := hl i x v hN e hv
 have fin : EP X pins σ Q u s := ⟨v, H, I, r, h⟩
 rcases l with ⟨hk, hm⟩ | ⟨hk, c, hc, hcell⟩
 · exact wpAny_Name (wpAny_loadName_local I.ok.kind hk hn hm fin) hd
 · rcases hk with hk | hk
   · exact wpAny_Name (wpAny_loadName_cell I.ok.kind hk hc hcell fin) hd
   · exact wpAny_Name (wpAny_loadName_free I.ok.kind hk hc hcell fin hcd) hd
theorem Zf {i j pos} : PE X (.Constant (.int i) j pos) (tC (.int i)) := fun _ _ _ H _ I h => wpAny_Constant_int ⟨.int i, H, I.tok _, ⟨_, rfl⟩, h⟩
theorem UL {b j pos} : PE X (.Constant (.bool b) j pos) (tC (.bl b)) := fun _ _ _ H _ I h => Constant_bool ⟨.bl b, H, I, rfl, h⟩
theorem ZO {j pos} : PE X (.Constant .none j pos) (tC .non) := fun _ _ _ H _ I h => Constant_none ⟨.non, H, I, rfl, h⟩
theorem Zk {x j pos} : PE X (.Constant (.str x) j pos) (tC (.str x)) := fun _ _ _ H _ I h => Calls.Constant_str ⟨.str x, H, I.tok _, ⟨_, rfl⟩, h⟩
def Gl (X : Cx) (x : Str) : Prop := X.env.kindOf x = some .globalImplicit
theorem UG {E : Value → Shared → Prop} {pins : List (Addr × Obj)} {s : Shared} {σ : St} {H : Hp} {x : Str} {u : Value} {pos : Pos} {Q : Value → Shared → Prop} (I : Inv X pins σ H s) (hg : Gl X x) (hm : X.mg x = some u) (h : Q u s)
   (hd : (x == ("__debug__" : Str)) = false := by decide) : wpAny (model X.prog X.w) X.A (eval (.Name x pos) X.env) Q E s :=
 Calls.Name_function_global I.ok.kind hg (Calls.loadGlobal_global (by rw [I.ok.glob]; exact I.mod.glob.keeps I.bk) hm h) hd
theorem TD {E : Value → Shared → Prop} {pins : List (Addr × Obj)} {s : Shared} {σ : St} {H : Hp} {x : Str} {u : Value} {pos : Pos} {Q : Value → Shared → Prop} (I : Inv X pins σ H s) (hg : Gl X x) (hm : X.mg x = none) (hv : bootBuiltins x = some u) (h : Q u s)
   (hn : x ≠ "__name__" := by decide) (hd : (x == ("__debug__" : Str)) = false := by decide) : wpAny (model X.prog X.w) X.A (eval (.Name x pos) X.env) Q E s := by
 obtain ⟨mb, h1, h2⟩ := I.mod.blt
 exact Calls.Name_function_global I.ok.kind hg (Calls.loadGlobal_builtin (by rw [I.ok.glob]; exact I.mod.glob.keeps I.bk) hm (by rw [I.ok.blt]; exact h1.keeps I.bk) ((h2 x hn).trans hv) h) hd
theorem pe_glob {x : Str} {v : V} {u : Value} {pos : Pos} (hg : Gl X x) (hm : X.mg x = some u) (r : RelV v u) (hd : (x == ("__debug__" : Str)) = false := by decide) : PE X (.Name x pos) (tC v) :=
 fun _ _ _ H _ I h => UG I hg hm ⟨v, H, I, r, h⟩ hd
theorem pe_bltn {x : Str} {v : V} {u : Value} {pos : Pos} (hg : Gl X x) (hm : X.mg x = none) (hv : bootBuiltins x = some u) (r : RelV v u) (hn : x ≠ "__name__" := by decide) (hd : (x == ("__debug__" : Str)) = false := by decide) : PE X (.Name x pos) (tC v) :=
 fun _ _ _ H _ I h => TD I hg hm hv ⟨v, H, I, r, h⟩ hn hd
variable {a b : Expr} {ta tb : TE} {pos : Pos}
def PC (X : Cx) (op : CmpOp) (a b : Expr) (t : TE) : Prop :=
 ∀ (pins : List (Addr × Obj)) (s : Shared) (σ : St) (H : Hp) (Q : VK), Inv X pins σ H s → t σ H Q →
   wpAny (model X.prog X.w) X.A (eval a X.env) (fun v s₁ => wpAny (model X.prog X.w) X.A (eval b X.env) (fun u s₂ => wpAny (model X.prog X.w) X.A (compareOp op v u) (EP X pins σ Q) X.xe s₂) X.xe s₁) X.xe s
def tB (t : TE) : TT := fun σ H Q => t σ H fun x H1 => ∃ c, x = .bl c ∧ Q c H1
theorem VQ {op : CmpOp} {t : TE} (h : PC X op a b t) (h1 : behindInMarks op b = false := by first | exact nobehind _ (by decide) (by decide) | rfl) : PT X (.Compare a [op] [b] pos) (tB t) := by
 intro pins s σ H Q I hw
 refine wpAny_isTrue_Compare1 (thn (h pins s σ H _ I hw) fun v s1 h1 => thn h1 fun u s2 h2 => thn h2 fun c s3 ⟨x, H1, I1, r1, q1⟩ => ?_) h1
 obtain ⟨d, rfl, q⟩ := q1
 cases r1
 exact wpAny_truthy_bool ⟨H1, I1, q⟩
variable {tA tB' : TT} {rest : List Expr}
def tAnd (t u : TT) : TT := fun σ H Q => t σ H fun c H1 => if c = true then u σ H1 Q else Q false H1
def tOr (t u : TT) : TT := fun σ H Q => t σ H fun c H1 => if c = true then Q true H1 else u σ H1 Q
def tNot (t : TT) : TT := fun σ H Q => t σ H fun c H1 => Q (!c) H1
theorem UD (ha : PT X a tA) : PW X (.BoolOp .And [a] pos) tA := by
 intro wh pins s σ H Q I h
 refine isTrue_and (thn (ha pins s σ H Q I h) fun c s1 e => ?_)
 cases c with
 | true => exact isTrue_and_nil e
 | false => exact e
theorem VO (ha : PT X a tA) : PW X (.BoolOp .Or [a] pos) tA := by
 intro wh pins s σ H Q I h
 refine isTrue_or (thn (ha pins s σ H Q I h) fun c s1 e => ?_)
 cases c with
 | false => exact isTrue_or_nil e
 | true => exact e
theorem Tz (ha : PT X a tA) (hb : PW X (.BoolOp .And (b :: rest) pos) tB') : PW X (.BoolOp .And (a :: b :: rest) pos) (tAnd tA tB') := by
 intro wh pins s σ H Q I h
 refine isTrue_and (thn (ha pins s σ H _ I h) fun c s1 ⟨H1, I1, q1⟩ => ?_)
 cases c with
 | true => exact hb wh pins s1 σ H1 Q I1 q1
 | false => exact ⟨H1, I1, q1⟩
theorem Ue (ha : PT X a tA) (hb : PW X (.BoolOp .Or (b :: rest) pos) tB') : PW X (.BoolOp .Or (a :: b :: rest) pos) (tOr tA tB') := by
 intro wh pins s σ H Q I h
 refine isTrue_or (thn (ha pins s σ H _ I h) fun c s1 ⟨H1, I1, q1⟩ => ?_)
 cases c with
 | true => exact ⟨H1, I1, q1⟩
 | false => exact hb wh pins s1 σ H1 Q I1 q1
theorem Sx (ha : PT X a tA) : PT X (.UnaryOp .Not a pos) (tNot tA) := by
 intro pins s σ H Q I h
 exact isTrue_not (ha pins s σ H (fun c H1 => Q (!c) H1) I h)
def tAndV (ta tb : TE) : TE := fun σ H Q => ta σ H fun x H1 => ∃ c, x = .bl c ∧ if c = true then tb σ H1 Q else Q (.bl false) H1
theorem pe_one {op} {t : TE} (h : PE X a t) : PE X (.BoolOp op [a] pos) t := fun pins s σ H Q I hw => BoolOp_one (h pins s σ H Q I hw)
theorem pe_and (ha : PE X a ta) (hb : PE X (.BoolOp .And (b :: rest) pos) tb) : PE X (.BoolOp .And (a :: b :: rest) pos) (tAndV ta tb) := by
 intro pins s σ H Q I h
 refine BoolOp_and (thn (ha pins s σ H _ I h) fun v s1 ⟨x, H1, I1, r1, q1⟩ => ?_)
 obtain ⟨c, rfl, q1⟩ := q1
 cases r1
 refine wpAny_truthy_bool ?_
 cases c with
 | true => exact hb pins s1 σ H1 Q I1 q1
 | false => exact ⟨.bl false, H1, I1, rfl, q1⟩
end
end L2
namespace L2
open PySem PySem.Spec PyProof.Rows
def SqL (K : W.Frag) (H : Hp) (a : Addr) (xs : List V) : Prop :=
 Rd H a (.lst xs) ∨
   ∃ (o : Obj) (its : Array Value) (n : Nat), K.lookup a = some o ∧ o.cls = .type "list" ∧ o.dict = none ∧ o.data = .seq its n ∧ its.size ≤ sizeLine ∧ Vals xs its.toList
def SqT (K : W.Frag) (H : Hp) (a : Addr) (xs : List V) : Prop :=
 Rd H a (.tup xs) ∨
   ∃ (o : Obj) (its : Array Value) (n : Nat), K.lookup a = some o ∧ o.cls = .type "tuple" ∧ o.data = .seq its n ∧ its.size ≤ sizeLine ∧ Vals xs its.toList
def absV : Value → Option V
 | .none => some .non
 | .bool b => some (.bl b)
 | .int i _ => some (.int i)
 | .str x _ => some (.str x)
 | .bytes b _ => some (.byt b)
 | .float b _ => some (.flt b)
 | .ref a => some (.ref a)
 | .type n => some (.ty n)
 | _ => none
theorem RelV.abs {x : V} {u : Value} (r : RelV x u) : absV u = some x := by
 cases x with
 | non => cases r; rfl
 | bl _ => cases r; rfl
 | int _ => obtain ⟨t, rfl⟩ := r; rfl
 | str _ => obtain ⟨t, rfl⟩ := r; rfl
 | byt _ => obtain ⟨t, rfl⟩ := r; rfl
 | flt _ => obtain ⟨t, rfl⟩ := r; rfl
 | ref _ => cases r; rfl
 | ty _ => cases r; rfl
theorem RelV.inj {x y : V} {u : Value} (r : RelV x u) (q : RelV y u) : x = y := Option.some.inj (r.abs.symm.trans q.abs)
theorem Vals.inj : ∀ {xs ys : List V} {us : List Value}, Vals xs us → Vals ys us → xs = ys
 | _, _, _, .nil, .nil => rfl
 | _, _, _, .cons r t, .cons r' t' => by rw [r.inj r', Vals.inj t t']
section
variable {X : Cx} {pins : List (Addr × Obj)} {σ : St} {H : Hp} {s : Shared} {a : Addr} {xs ys : List V}
theorem SqL.of {K : W.Frag} (h : H a = some (.lst xs)) : SqL K H a xs := .inl (.inl h)
theorem SqT.of {K : W.Frag} (h : H a = some (.tup xs)) : SqT K H a xs := .inl (.inl h)
theorem Inv.list (I : Inv X pins σ H s) (h : SqL X.K H a xs) : ∃ its : List Value, Vals xs its ∧ PlainL s.heap a its.toArray ∧ xs.length ≤ sizeLine := by
 rcases h with h | ⟨o, its, n, hk, hc, hd, hs, hz, r⟩
 · obtain ⟨z, its, n, r, e⟩ := h.ok I.hok
   exact ⟨its, r, ⟨_, n, e, rfl, rfl, rfl⟩, z⟩
 · refine ⟨its.toList, r, ⟨o, n, I.kIn a o hk, hc, hd, by simpa using hs⟩, ?_⟩
   have e := r.length
   simp only [Array.length_toList] at e
   omega
theorem Inv.tuple (I : Inv X pins σ H s) (h : SqT X.K H a xs) : ∃ its : List Value, Vals xs its ∧ IsTup s.heap a its.toArray ∧ xs.length ≤ sizeLine := by
 rcases h with h | ⟨o, its, n, hk, hc, hs, hz, r⟩
 · obtain ⟨z, its, r, p⟩ := h.ok I.hok
   exact ⟨its, r, p, z⟩
 · refine ⟨its.toList, r, ⟨o, I.kIn a o hk, hc, n, by simpa using hs⟩, ?_⟩
   have e := r.length
   simp only [Array.length_toList] at e
   omega
theorem Inv.list_inj (I : Inv X pins σ H s) (h : SqL X.K H a xs) (h' : SqL X.K H a ys) : xs = ys := by
 obtain ⟨its, r, ⟨o, n, e, _, _, d⟩, _⟩ := I.list h
 obtain ⟨its', r', ⟨o', n', e', _, _, d'⟩, _⟩ := I.list h'
 rw [e] at e'; cases e'
 rw [d] at d'
 injection d' with d1 _
 have : its = its' := by simpa using congrArg Array.toList d1
 subst this
 exact r.inj r'
theorem Inv.tuple_inj (I : Inv X pins σ H s) (h : SqT X.K H a xs) (h' : SqT X.K H a ys) : xs = ys := by
 obtain ⟨its, r, ⟨o, e, _, n, d⟩, _⟩ := I.tuple h
 obtain ⟨its', r', ⟨o', e', _, n', d'⟩, _⟩ := I.tuple h'
 rw [e] at e'; cases e'
 rw [d] at d'
 injection d' with d1 _
 have : its = its' := by simpa using congrArg Array.toList d1
 subst this
 exact r.inj r'
end
abbrev Cx.wish (X : Cx) (E : Value → Shared → Prop) : Cx := { X with xe := E }
abbrev Cx.nox (X : Cx) : Cx := X.wish fun _ _ => False
theorem Cx.Ok.wish {X : Cx} (ok : X.Ok) (E : Value → Shared → Prop) : (X.wish E).Ok :=
 ⟨ok.mod, ok.kind, ok.glob, ok.blt, ok.above, ok.inj, ok.has, ok.cab, ok.hd, ok.frames, ok.stk, ok.exf, ok.bs, ok.bsz, ok.noex, ok.exfs, ok.funs, ok.frf⟩
theorem Cx.Ok.unwish {X : Cx} {E : Value → Shared → Prop} (ok : (X.wish E).Ok) : X.Ok :=
 ⟨ok.mod, ok.kind, ok.glob, ok.blt, ok.above, ok.inj, ok.has, ok.cab, ok.hd, ok.frames, ok.stk, ok.exf, ok.bs, ok.bsz, ok.noex, ok.exfs, ok.funs, ok.frf⟩
section
variable {X : Cx} {pins : List (Addr × Obj)} {σ : St} {H : Hp} {s : Shared} {E : Value → Shared → Prop}
theorem Inv.wish (I : Inv X pins σ H s) (E : Value → Shared → Prop) : Inv (X.wish E) pins σ H s := ⟨I.ok.wish E, I.os, I.bare, I.base, I.loc, I.cell, I.free, I.freeC, I.pin, I.hok, I.len⟩
theorem Inv.unwish (I : Inv (X.wish E) pins σ H s) : Inv X pins σ H s := ⟨I.ok.unwish, I.os, I.bare, I.base, I.loc, I.cell, I.free, I.freeC, I.pin, I.hok, I.len⟩
theorem SP.unwish {D : Ends} {f : Flow} {s' : Shared} (h : SP (X.wish E) pins D f s') : SP X pins D f s' := by
 cases f with
 | next => obtain ⟨σ', H', I, q⟩ := h; exact ⟨σ', H', I.unwish, q⟩
 | brk => obtain ⟨σ', H', I, q⟩ := h; exact ⟨σ', H', I.unwish, q⟩
 | cont => obtain ⟨σ', H', I, q⟩ := h; exact ⟨σ', H', I.unwish, q⟩
 | ret u => obtain ⟨v, σ', H', I, r, q⟩ := h; exact ⟨v, σ', H', I.unwish, r, q⟩
theorem PSs.nox {st : List Stmt} {t : TS} (h : PSs X.nox st t) : PSs X st t := fun pins s σ H D I hw =>
 wpAny_mono (h pins s σ H D (I.wish _) hw) (fun _ _ q => q.unwish) fun _ _ z => False.elim z
end
section
variable {X : Cx} {st : Stmt} {rest : List Stmt} {t u : TS} {e : Expr} {te : TE} {pos : Pos}
def tNext : TS := fun D σ H => D.nx σ H
def tSeq (t u : TS) : TS := fun D σ H => t { D with nx := u D } σ H
theorem Zy : PSs X [] tNext := fun _ _ σ H _ I h => wpAny_execs_nil ⟨σ, H, I, h⟩
theorem Zh (h1 : PS X st t) (h2 : PSs X rest u) : PSs X (st :: rest) (tSeq t u) := by
 intro pins s σ H D I h
 refine wpAny_execs_cons (thn (h1 pins s σ H { D with nx := u D } I h) fun f s1 q => ?_)
 cases f with
 | next =>
   obtain ⟨σ', H', I', q⟩ := q
   exact h2 pins s1 σ' H' D I' q
 | ret v => exact q
 | brk => exact q
 | cont => exact q
theorem Zg (h1 : PS X st t) : PSs X [st] t := by
 intro pins s σ H D I h
 refine wpAny_execs_cons (thn (h1 pins s σ H D I h) fun f s1 q => ?_)
 cases f with
 | next => exact wpAny_execs_nil q
 | ret v => exact q
 | brk => exact q
 | cont => exact q
theorem Inv.quiet {pins : List (Addr × Obj)} {σ : St} {H : Hp} {s : Shared} (I : Inv X pins σ H s) : interactive X.env = false := by simp [interactive, I.ok.kind]
def tDrop (te : TE) : TS := fun D σ H => te σ H fun _ H1 => D.nx σ H1
theorem ZG (he : PE X e te) (hs : swapsWith e none pos.line X.env = pure false := by rfl) : PS X (.Expr e pos) (tDrop te) := by
 intro pins s σ H D I h
 exact wpAny_Expr_any (thn (he pins s σ H _ I h) fun v s1 ⟨x, H1, I1, r1, q1⟩ => ⟨σ, H1, I1, q1⟩) I.quiet hs
def tRet (te : TE) : TS := fun D σ H => te σ H D.rt
theorem Zq (he : PE X e te) : PS X (.Return (some e) pos) (tRet te) := by
 intro pins s σ H D I h
 exact wpAny_Return_some (thn (he pins s σ H _ I h) fun v s1 ⟨x, H1, I1, r1, q1⟩ => ⟨x, σ, H1, I1, r1, q1⟩)
def tIfS (c : TT) (t u : TS) : TS := fun D σ H => c σ H fun b H1 => if b = true then t D σ H1 else u D σ H1
theorem ZI {c : Expr} {a b : List Stmt} {tc : TT} (hc : PT X c tc) (ha : PSs X a t) (hb : PSs X b u) : PS X (.If c a b pos) (tIfS tc t u) := by
 intro pins s σ H D I h
 refine wpAny_If (thn (hc pins s σ H _ I h) fun d s1 ⟨H1, I1, q1⟩ => ?_)
 cases d with
 | true => exact ha pins s1 σ H1 D I1 q1
 | false => exact hb pins s1 σ H1 D I1 q1
end
abbrev TG := V → St → Hp → (St → Hp → Prop) → Prop
abbrev TGs := List V → St → Hp → (St → Hp → Prop) → Prop
def PG (X : Cx) (target : Expr) (t : TG) : Prop :=
 ∀ (pins : List (Addr × Obj)) (s : Shared) (σ : St) (H : Hp) (v : V) (u : Value) (Q : St → Hp → Prop), Inv X pins σ H s → RelV v u → t v σ H Q →
   wpAny (model X.prog X.w) X.A (assign target X.env u) (fun _ s' => ∃ σ' H', Inv X pins σ' H' s' ∧ Q σ' H') X.xe s
def PGs (X : Cx) (ts : List Expr) (t : TGs) : Prop :=
 ∀ (pins : List (Addr × Obj)) (s : Shared) (σ : St) (H : Hp) (vs : List V) (us : List Value) (Q : St → Hp → Prop), Inv X pins σ H s → Vals vs us → t vs σ H Q →
   wpAny (model X.prog X.w) X.A (assignInOrder ((assignEach ts X.env).map (·.2)) us) (fun _ s' => ∃ σ' H', Inv X pins σ' H' s' ∧ Q σ' H') X.xe s
section
variable {X : Cx} {pos : Pos}
def gName (i : Nat) : TG := fun v σ H Q => Q (σ.set i (some v)) H
theorem Yk {i : Nat} {x : Str} (hN : X.N.Nodup) (hi : X.N[i]? = some x) (hx : Loc X.env.scope x) (hf : X.fn x = true ∨ X.env.scope.names.lookup x = some .local := by first | exact .inl rfl | exact .inr rfl | assumption) : PG X (.Name x pos) (gName i) := by
 intro pins s σ H v u Q I r h
 exact wpAny_assign_Name (Ub I hN hi hx r (fun s' I' => ⟨_, H, I', h⟩) hf)
def gNil : TGs := fun vs σ H Q => vs = [] ∧ Q σ H
def gCons (t : TG) (u : TGs) : TGs := fun vs σ H Q => ∃ v r, vs = v :: r ∧ t v σ H fun σ' H' => u r σ' H' Q
theorem Sc : PGs X [] gNil := by
 intro pins s σ H vs us Q I r h
 obtain ⟨e, h⟩ := h
 subst e
 cases r
 exact assignInOrder_nil ⟨σ, H, I, h⟩
theorem Xz {e : Expr} {es : List Expr} {t : TG} {u : TGs} (h1 : PG X e t) (h2 : PGs X es u)
   (hs : (assignEach (e :: es) X.env).map (·.2) = assign e X.env :: (assignEach es X.env).map (·.2) := by rfl) : PGs X (e :: es) (gCons t u) := by
 intro pins s σ H vs us Q I r h
 obtain ⟨v, vr, e1, h⟩ := h
 subst e1
 cases r with
 | cons r rr =>
   rw [hs]
   refine assignInOrder_cons (thn (h1 pins s σ H _ _ _ I r h) fun _ s1 ⟨σ1, H1, I1, q1⟩ => ?_)
   exact h2 pins s1 σ1 H1 _ _ Q I1 rr q1
def gTup (K : W.Frag) (n : Nat) (t : TGs) : TG := fun v σ H Q => ∃ a xs, v = .ref a ∧ SqT K H a xs ∧ xs.length = n ∧ t xs σ H Q
theorem Qj {es : List Expr} {k : Nat} {t : TGs} {n : Nat} (hc : X.calm = true) (h : PGs X es t)
   (hn : (assignEach es X.env).length = n := by rfl) (hst : (assignEach es X.env).findIdx? (·.1) = none := by rfl) : PG X (.Tuple es k pos) (gTup X.K n t) := by
 intro pins s σ H v u Q I r hw
 obtain ⟨a, xs, e1, hq, hl, hw⟩ := hw
 subst e1
 cases r
 obtain ⟨its, rv, ht, hz⟩ := I.tuple hq
 refine assign_Tuple_tuple (I.ok.hd hc) ht (by simp [hn, ← hl, rv.length]) hst fun h' hx => ?_
 have I1 : Inv X pins σ H { s with heap := h' } := I.kept (t' := s.toks) fun b o e => hx b o (Nat.ne_of_lt (Heap.lt_size e)) e
 exact h pins _ σ H xs _ Q I1 (by simpa using rv) hw
def tAsg (te : TE) (g : TG) : TS := fun D σ H => te σ H fun x H1 => g x σ H1 D.nx
theorem ps_asg {tg e : Expr} {te : TE} {g : TG} (he : PE X e te) (hg : PG X tg g) (hs : swapsWithSole [tg] e pos.line X.env = pure false := by rfl) (hw : swappedStores [tg] e X.env = pure none := by rfl)
   (h1 : (assignEach [tg] X.env).map (·.2) = [assign tg X.env] := by rfl) : PS X (.Assign [tg] e pos) (tAsg te g) := by
 intro pins s σ H D I h
 refine wpAny_Assign_stores (thn (he pins s σ H _ I h) fun v s1 ⟨x, H1, I1, r1, q1⟩ => ?_) hs hw
 rw [h1]
 exact thn (hg pins s1 σ H1 x v _ I1 r1 q1) fun _ s2 q => q
theorem Zz {i : Nat} {x : Str} {e : Expr} {te : TE} {pos' : Pos} (hN : X.N.Nodup) (hi : X.N[i]? = some x) (hx : Loc X.env.scope x) (he : PE X e te) (hs : swapsWith e (some (.Name x pos')) pos.line X.env = pure false := by rfl) (hf : X.fn x = true ∨ X.env.scope.names.lookup x = some .local := by first | exact .inl rfl | exact .inr rfl | assumption) :
   PS X (.Assign [.Name x pos'] e pos) (tAsg te (gName i)) := by
 intro pins s σ H D I h
 refine wpAny_Assign_Name (thn (he pins s σ H _ I h) fun v s1 ⟨y, H1, I1, r1, q1⟩ => ?_) hs
 exact Ub I1 hN hi hx r1 (fun s2 I2 => ⟨_, H1, I2, q1⟩) hf
end
section
variable {X : Cx} {pos : Pos}
def tWhile (c : TT) (tb : TS) : TS := fun D σ H => ∃ W : Nat → St → Hp → Prop, (∃ m, W m σ H) ∧ ∀ m σ H, W m σ H →
 c σ H fun b H1 => if b = true then ∃ N : St → Hp → Prop, (∀ σ' H', N σ' H' → ∃ m', m' < m ∧ W m' σ' H') ∧ tb { D with nx := N, ct := N, bk := D.nx } σ H1 else D.nx σ H1
theorem Sz {c : Expr} {body : List Stmt} {tc : TT} {tb : TS} (hp : PassesOwn (model X.prog X.w) X.A X.env X.xe) (hc : PT X c tc) (hb : PSs X body tb) : PS X (.While c body [] pos) (tWhile tc tb) := by
 intro pins s σ H D I h
 obtain ⟨W, ⟨m0, w0⟩, turn⟩ := h
 refine wpAny_While (codeAny_whileLoop (fun n s' => ∃ σ' H', Inv X pins σ' H' s' ∧ W n σ' H') ?_ m0 ⟨σ, H, I, w0⟩)
 rintro n s1 ⟨σ1, H1, I1, w1⟩
 refine wpAny_passesOwn hp (thn (hc pins s1 σ1 H1 _ I1 (turn n σ1 H1 w1)) fun b s2 ⟨H2, I2, q2⟩ => ?_)
 cases b with
 | true =>
   obtain ⟨N, hN, q2⟩ := q2
   rw [if_pos rfl]
   refine wpAny_passesOwn hp (thn (hb pins s2 σ1 H2 _ I2 q2) fun f s3 q3 => ?_)
   cases f with
   | next =>
     obtain ⟨σ3, H3, I3, n3⟩ := q3
     obtain ⟨m', hm, w3⟩ := hN σ3 H3 n3
     exact ⟨m', hm, σ3, H3, I3, w3⟩
   | cont =>
     obtain ⟨σ3, H3, I3, n3⟩ := q3
     obtain ⟨m', hm, w3⟩ := hN σ3 H3 n3
     exact ⟨m', hm, σ3, H3, I3, w3⟩
   | brk => exact q3
   | ret v => exact q3
 | false =>
   rw [if_neg Bool.false_ne_true]
   exact wpAny_execs_nil ⟨σ1, H2, I2, q2⟩
end
structure It where
 go : Nat → Hp → Prop
 yld : Nat → Hp → V → Hp → Prop
 stop : Nat → Hp → Prop
def FpOk (X : Cx) (pins : List (Addr × Obj)) (H : Hp) (b : Addr) : Prop :=
 H b = none ∧ b ≠ X.env.locals ∧ b ∉ X.fs ∧ (b ∈ X.ex ∨ X.s₀.heap.objs.size ≤ b) ∧ (∀ x c, X.env.cells.lookup x = some c → c ≠ b) ∧ ∀ p ∈ X.pn ++ pins, p.1 ≠ b
theorem Inv.fpOk {X : Cx} {pins : List (Addr × Obj)} {σ : St} {H H' : Hp} {s : Shared} {b : Addr} (I : Inv X pins σ H s) (hb : s.heap.objs.size ≤ b) (hn : H' b = none) : FpOk X pins H' b := by
 refine ⟨hn, Nat.ne_of_gt (Nat.lt_of_lt_of_le I.lt hb), I.nofs hb, .inr (Nat.le_trans I.sz hb), fun x c e z => ?_, fun p hp z => ?_⟩
 · obtain ⟨v, q⟩ := I.cell x c e
   exact absurd (Nat.lt_of_lt_of_le q.lt (by rw [z]; exact hb)) (Nat.lt_irrefl _)
 · exact absurd (Nat.lt_of_lt_of_le (Heap.lt_size (I.pin p hp).1) (by rw [z]; exact hb)) (Nat.lt_irrefl _)
structure Turn (P : Program) (w : World) (K : W.Frag) (tg : Expr) (J : It) (fp : List Addr) (it : Addr) (tn : Nat → Heap → Prop) : Prop where
 mem : it ∈ fp
 obj : ∀ i h, tn i h → ∀ b ∈ fp, ∃ o, h.get? b = some o ∧ ∀ v, o.data ≠ .cell v
 keep : ∀ i h h', tn i h → (∀ b ∈ fp, ∀ o, h.get? b = some o → h'.get? b = some o) → tn i h'
 item : ∀ (X : Cx), X.prog = P → X.w = w → X.K = K → X.calm = true → ∀ (i : Nat) (pins : List (Addr × Obj)) (s : Shared) (σ : St) (H : Hp) (E : Value → Shared → Prop), Inv X pins σ H s → (∀ b ∈ fp, FpOk X pins H b) → tn i s.heap → J.go i H →
   wpAny (model P w) X.A (pyNext (.ref it)) (fun r s1 => ∃ u, r = some u ∧
     wpAny (model P w) X.A (letOwnedTupleGo tg (.ref it) u) (fun _ s2 => ∃ x H', Inv X pins σ H' s2 ∧ RelV x u ∧ J.yld i H x H' ∧ tn (i + 1) s2.heap ∧ ∀ b ∈ fp, H' b = none) E s1) E s
 done : ∀ (X : Cx), X.prog = P → X.w = w → X.K = K → X.calm = true → ∀ (i : Nat) (pins : List (Addr × Obj)) (s : Shared) (σ : St) (H : Hp) (E : Value → Shared → Prop), Inv X pins σ H s → (∀ b ∈ fp, FpOk X pins H b) → tn i s.heap → J.stop i H →
   wpAny (model P w) X.A (pyNext (.ref it)) (fun r s1 => r = none ∧ Inv X pins σ H s1) E s
 self : ∀ (A : Around) (i : Nat) (s : Shared) (Q : Value → Shared → Prop) (E : Value → Shared → Prop), tn i s.heap → Q (.ref it) s → wpAny (model P w) A (pyIter (.ref it)) Q E s
abbrev TI := St → Hp → (It → Hp → Prop) → Prop
def PIE (X : Cx) (pins : List (Addr × Obj)) (σ : St) (tg : Expr) (R : It → Hp → Prop) (itv : Value) (s2 : Shared) : Prop :=
 ∃ (it : Addr) (fp : List Addr) (tn : Nat → Heap → Prop) (J : It) (H' : Hp), itv = .ref it ∧ Inv X pins σ H' s2 ∧ Turn X.prog X.w X.K tg J fp it tn ∧ tn 0 s2.heap ∧ (∀ b ∈ fp, FpOk X pins H' b) ∧ R J H'
def PI (X : Cx) (tg iter : Expr) (wi : TI) : Prop :=
 ∀ (pins : List (Addr × Obj)) (s : Shared) (σ : St) (H : Hp) (R : It → Hp → Prop), Inv X pins σ H s → wi σ H R →
   wpAny (model X.prog X.w) X.A (eval iter X.env) (fun v s1 => wpAny (model X.prog X.w) X.A (pyIter v) (PIE X pins σ tg R) X.xe s1) X.xe s
theorem go_of {M : Model} {A : Around} {E : Value → Shared → Prop} {s : Shared} {tg : Expr} {it : Addr} {u : Value} {o : Obj} {n : String} {vs : Array Value} {Q : Unit → Shared → Prop} (ho : s.heap.get? it = some o) (hc : o.cls = .type n) (hd : o.data = .fields vs)
   (hn : ["enumerate", "zip", "dict_itemiterator", "dict_reverseitemiterator", "odict_iterator", "itertools.zip_longest", "itertools.pairwise"].contains n = false) (hQ : Q () s) : wpAny M A (letOwnedTupleGo tg (.ref it) u) Q E s := by
 unfold letOwnedTupleGo
 cases tg <;> first
   | exact wpAny_pure hQ
   | (cases u <;> first
       | exact wpAny_pure hQ
       | (refine wpAny_bind (wpAny_load ho ?_)
          rw [hc, hd]
          show wpAny M A (if (["enumerate", "zip", "dict_itemiterator", "dict_reverseitemiterator", "odict_iterator", "itertools.zip_longest", "itertools.pairwise"].contains n && vs[0]? == some (rawInt _)) = true then _ else _) Q E s
          rw [if_neg (by intro h; rw [hn, Bool.false_and] at h; cases h)]
          exact wpAny_pure hQ))
def Itl (K : W.Frag) (a : Addr) : It :=
 ⟨fun i H => ∃ xs x, SqL K H a xs ∧ xs[i]? = some x, fun i H x H' => H' = H ∧ ∀ xs, SqL K H a xs → xs[i]? = some x, fun i H => ∃ xs, SqL K H a xs ∧ xs.length ≤ i⟩
def Itt (K : W.Frag) (a : Addr) : It :=
 ⟨fun i H => ∃ xs x, SqT K H a xs ∧ xs[i]? = some x, fun i H x H' => H' = H ∧ ∀ xs, SqT K H a xs → xs[i]? = some x, fun i H => ∃ xs, SqT K H a xs ∧ xs.length ≤ i⟩
def Itr (lo : Int) (n : Nat) : It := ⟨fun i _ => i < n, fun i H x H' => H' = H ∧ x = .int (lo + i), fun i _ => n ≤ i⟩
theorem turn_list {P : Program} {w : World} {K : W.Frag} {tg : Expr} (a it : Addr) : Turn P w K tg (Itl K a) [it] it (fun i h => h.IsListIter it a i) where
 mem := by simp
 obj := fun i h st b hb => by
   have e : b = it := by simpa using hb
   subst e
   obtain ⟨o, e, c, d⟩ := st
   exact ⟨o, e, fun v z => by rw [d] at z; cases z⟩
 keep := fun i h h' st k => st.at fun o e => k it (by simp) o e
 item := by
   intro X hP hw hK hc i pins s σ H E I hf st hg
   subst hP hw hK
   obtain ⟨xs, x, hq, hx⟩ := hg
   obtain ⟨its, rv, p, hz⟩ := I.list hq
   obtain ⟨u, hu, ru⟩ := rv.get hx
   obtain ⟨f0, f1, f2, f3, f4, f5⟩ := hf it (by simp)
   refine wpAny_pyNext_list_item st p.isList (x := u) (by simpa using hu) fun h' st' sb => ?_
   have I1 : Inv X pins σ H { s with heap := h' } := I.turned (t' := s.toks) (fun b o hb e => (sb.2 b hb).trans e) f0 f1 f3 f4 f5
   obtain ⟨o, e, c, d⟩ := id st'
   exact ⟨u, rfl, go_of (s := { s with heap := h' }) e c d (by decide) ⟨x, H, I1, ru, ⟨rfl, fun ys hy => by rw [I.list_inj hy hq]; exact hx⟩, st', fun b hb => (hf b hb).1⟩⟩
 done := by
   intro X hP hw hK hc i pins s σ H E I hf st hg
   subst hP hw hK
   obtain ⟨xs, hq, hx⟩ := hg
   obtain ⟨its, rv, p, hz⟩ := I.list hq
   obtain ⟨f0, f1, f2, f3, f4, f5⟩ := hf it (by simp)
   have hl := rv.length
   exact wpAny_pyNext_list_end (I.ok.hd hc) st p.isList (by simp; omega) fun h' eb => ⟨rfl, I.turned (t' := s.toks) (fun b o hb e => eb b o hb e) f0 f1 f3 f4 f5⟩
 self := fun _ _ _ _ _ st h => wpAny_pyIter_listiter st h
theorem turn_tuple {P : Program} {w : World} {K : W.Frag} {tg : Expr} (a it : Addr) : Turn P w K tg (Itt K a) [it] it (fun i h => h.IsTupleIter it a i) where
 mem := by simp
 obj := fun i h st b hb => by
   have e : b = it := by simpa using hb
   subst e
   obtain ⟨o, e, c, d⟩ := st
   exact ⟨o, e, fun v z => by rw [d] at z; cases z⟩
 keep := fun i h h' st k => st.at fun o e => k it (by simp) o e
 item := by
   intro X hP hw hK hc i pins s σ H E I hf st hg
   subst hP hw hK
   obtain ⟨xs, x, hq, hx⟩ := hg
   obtain ⟨its, rv, p, hz⟩ := I.tuple hq
   obtain ⟨u, hu, ru⟩ := rv.get hx
   obtain ⟨f0, f1, f2, f3, f4, f5⟩ := hf it (by simp)
   refine wpAny_pyNext_tuple_item st (show s.heap.IsTuple a its.toArray from p) (x := u) (by simpa using hu) fun h' st' sb => ?_
   have I1 : Inv X pins σ H { s with heap := h' } := I.turned (t' := s.toks) (fun b o hb e => (sb.2 b hb).trans e) f0 f1 f3 f4 f5
   obtain ⟨o, e, c, d⟩ := id st'
   exact ⟨u, rfl, go_of (s := { s with heap := h' }) e c d (by decide) ⟨x, H, I1, ru, ⟨rfl, fun ys hy => by rw [I.tuple_inj hy hq]; exact hx⟩, st', fun b hb => (hf b hb).1⟩⟩
 done := by
   intro X hP hw hK hc i pins s σ H E I hf st hg
   subst hP hw hK
   obtain ⟨xs, hq, hx⟩ := hg
   obtain ⟨its, rv, p, hz⟩ := I.tuple hq
   obtain ⟨f0, f1, f2, f3, f4, f5⟩ := hf it (by simp)
   have hl := rv.length
   exact wpAny_pyNext_tuple_end (I.ok.hd hc) st (show s.heap.IsTuple a its.toArray from p) (by simp; omega) fun h' eb => ⟨rfl, I.turned (t' := s.toks) (fun b o hb e => eb b o hb e) f0 f1 f3 f4 f5⟩
 self := fun _ _ _ _ _ st h => wpAny_pyIter_tupleiter st h
theorem turn_range {P : Program} {w : World} {K : PySem.W.Frag} {tg : Expr} (it : Addr) (lo : Int) (n : Nat) : Turn P w K tg (Itr lo n) [it] it (fun i h => IsRangeIter h it (lo + (i : Nat) * 1) ((n : Int) - (i : Nat)) 1) where
 mem := by simp
 obj := fun i h st b hb => by
   have e : b = it := by simpa using hb
   subst e
   exact ⟨_, st, fun v z => by
     have z' : Data.fields _ = Data.cell v := z
     cases z'⟩
 keep := fun i h h' st k => k it (by simp) _ st
 item := by
   intro X hP hw hK hc i pins s σ H E I hf st hg
   subst hP hw hK
   obtain ⟨f0, f1, f2, f3, f4, f5⟩ := hf it (by simp)
   have W := Walks.range (prog := X.prog) (w := X.w) (I.ok.hd hc) it lo 1 n
   refine W.item i s _ _ hg st fun v h' tk hv st' kk => ?_
   obtain ⟨t, rfl⟩ := hv
   have I1 : Inv X pins σ H { s with heap := h', toks := tk } := I.turned (fun b o hb e => kk b o (by simpa using hb) e) f0 f1 f3 f4 f5
   refine ⟨_, rfl, go_of (s := { s with heap := h', toks := tk }) (n := "range_iterator") st' rfl rfl (by decide) ⟨.int (lo + i), H, I1, ⟨t, ?_⟩, ⟨rfl, rfl⟩, st', fun b hb => (hf b hb).1⟩⟩
   rw [Int.mul_one]
 done := by
   intro X hP hw hK hc i pins s σ H E I hf st hg
   subst hP hw hK
   obtain ⟨f0, f1, f2, f3, f4, f5⟩ := hf it (by simp)
   exact wpAny_pyNext_range_end (I.ok.hd hc) st (by have : n ≤ i := hg; omega) fun h' eb => ⟨rfl, I.turned (t' := s.toks) (fun b o hb e => eb b o hb e) f0 f1 f3 f4 f5⟩
 self := fun _ _ _ _ _ st h => wpAny_pyIter_rangeiter st h
end L2
namespace L2
open PySem PySem.Spec PyProof.Rows
section
variable {X : Cx} {tg : Expr}
def iList (K : W.Frag) (tl : TE) : TI := fun σ H R => tl σ H fun x H1 => ∃ a, x = .ref a ∧ (∃ xs, SqL K H1 a xs) ∧ R (Itl K a) H1
def iTup (K : W.Frag) (tl : TE) : TI := fun σ H R => tl σ H fun x H1 => ∃ a, x = .ref a ∧ (∃ xs, SqT K H1 a xs) ∧ R (Itt K a) H1
theorem Sa {l : Expr} {tl : TE} (hl : PE X l tl) : PI X tg l (iList X.K tl) := by
 intro pins s σ H R I h
 refine thn (hl pins s σ H _ I h) fun v s1 ⟨x, H1, I1, r1, q1⟩ => ?_
 obtain ⟨a, e, ⟨xs, hq⟩, q⟩ := q1
 subst e
 cases r1
 obtain ⟨its, rv, p, hz⟩ := I1.list hq
 refine wpAny_pyIter_list p.isList ?_
 refine ⟨s1.heap.objs.size, [s1.heap.objs.size], _, _, H1, rfl, I1.kept (t' := s1.toks) fun b o e => Heap.get?_push_of_some _ e, turn_list a _, ⟨_, Heap.get?_push_size _ rfl, rfl, rfl⟩, fun b hb => ?_, q⟩
 have e : b = s1.heap.objs.size := by simpa using hb
 subst e
 exact I1.fpOk (Nat.le_refl _) (I1.hok.fresh (Nat.le_refl _))
theorem pi_tup {l : Expr} {tl : TE} (hl : PE X l tl) : PI X tg l (iTup X.K tl) := by
 intro pins s σ H R I h
 refine thn (hl pins s σ H _ I h) fun v s1 ⟨x, H1, I1, r1, q1⟩ => ?_
 obtain ⟨a, e, ⟨xs, hq⟩, q⟩ := q1
 subst e
 cases r1
 obtain ⟨its, rv, p, hz⟩ := I1.tuple hq
 refine wpAny_pyIter_tuple (show s1.heap.IsTuple a its.toArray from p) ?_
 refine ⟨s1.heap.objs.size, [s1.heap.objs.size], _, _, H1, rfl, I1.kept (t' := s1.toks) fun b o e => Heap.get?_push_of_some _ e, turn_tuple a _, ⟨_, Heap.get?_push_size _ rfl, rfl, rfl⟩, fun b hb => ?_, q⟩
 have e : b = s1.heap.objs.size := by simpa using hb
 subst e
 exact I1.fpOk (Nat.le_refl _) (I1.hok.fresh (Nat.le_refl _))
theorem range_it {pins : List (Addr × Obj)} {σ : St} {H : Hp} {s : Shared} {R : It → Hp → Prop} {E : Value → Shared → Prop} {lo hi : Int} {t u v : Tok} {tk : Nat} (I : Inv X pins σ H s) (h1 : -(2 ^ 62) ≤ lo) (h2 : lo < 2 ^ 62) (h3 : -(2 ^ 62) ≤ hi) (h4 : hi < 2 ^ 62)
   (q : R (Itr lo (hi - lo).toNat) H) : wpAny (model X.prog X.w) X.A (pyIter (.ref s.heap.objs.size)) (PIE X pins σ tg R) E { s with heap := s.heap.push { cls := .type "range", data := .fields #[.int lo t, .int hi u, .int 1 v] }, toks := tk } := by
 refine wpAny_pyIter_range (IsRange.new ..) (small_one h1 h2 h3 h4) ?_
 have I1 : Inv X pins σ H { s with heap := s.heap.push { cls := .type "range", data := .fields #[.int lo t, .int hi u, .int 1 v] }, toks := tk } := I.kept fun b o e => Heap.get?_push_of_some _ e
 refine ⟨(s.heap.push { cls := .type "range", data := .fields #[.int lo t, .int hi u, .int 1 v] }).objs.size, [(s.heap.push { cls := .type "range", data := .fields #[.int lo t, .int hi u, .int 1 v] }).objs.size], _, _, H, rfl,
   I1.kept (t' := tk) fun b o e => Heap.get?_push_of_some _ e, turn_range _ lo (hi - lo).toNat, ?_, fun b hb => ?_, q⟩
 · have e1 : lo + ((0 : Nat) : Int) * 1 = lo := by simp
   have e2 : (((hi - lo).toNat : Nat) : Int) - ((0 : Nat) : Int) = Builtin.Range.rangeSize lo hi 1 := by rw [rangeSize_one]; split <;> omega
   show IsRangeIter _ _ (lo + ((0 : Nat) : Int) * 1) ((((hi - lo).toNat : Nat) : Int) - ((0 : Nat) : Int)) 1
   rw [e1, e2]
   exact Heap.get?_push_size _ rfl
 · have e : b = (s.heap.push { cls := .type "range", data := .fields #[.int lo t, .int hi u, .int 1 v] }).objs.size := by simpa using hb
   subst e
   exact I1.fpOk (Nat.le_refl _) (I1.hok.fresh (Nat.le_refl _))
def iRng1 (ta : TA) : TI := fun σ H R => ta σ H fun vs H1 => ∃ j : Int, vs = [.int j] ∧ -(2 ^ 62) ≤ j ∧ j < 2 ^ 62 ∧ R (Itr 0 j.toNat) H1
def iRng2 (ta : TA) : TI := fun σ H R => ta σ H fun vs H1 => ∃ i j : Int, vs = [.int i, .int j] ∧ (-(2 ^ 62) ≤ i ∧ i < 2 ^ 62 ∧ -(2 ^ 62) ≤ j ∧ j < 2 ^ 62) ∧ R (Itr i (j - i).toNat) H1
theorem VG {a : Expr} {ta : TA} {p pos : Pos} (hg : Gl X "range") (hm : X.mg "range" = none) (ha : PA X [a] ta) (hs : starEach [a] X.env = [(false, eval a X.env)] := by rfl) : PI X tg (.Call (.Name "range" p) [a] [] pos) (iRng1 ta) := by
 intro pins s σ H R I h
 refine Call_ (TD I hg hm boot_range (PyProof.Rows.callWith_type1 (thn (ha pos pins s σ H _ I h) fun us s1 ⟨vs, H1, I1, r1, q1⟩ => ?_) hs rfl))
 obtain ⟨j, e, q1, q2, q⟩ := q1
 subst e
 cases r1 with
 | cons r rr =>
   cases rr
   obtain ⟨t, rfl⟩ := r
   exact call_range_1 (range_it I1 (by omega) (by omega) q1 q2 (by simpa using q))
theorem pi_range2 {a b : Expr} {ta : TA} {p pos : Pos} (hg : Gl X "range") (hm : X.mg "range" = none) (ha : PA X [a, b] ta) (hs : starEach [a, b] X.env = [(false, eval a X.env), (false, eval b X.env)] := by rfl) (hs2 : starEach [b] X.env = [(false, eval b X.env)] := by rfl) :
   PI X tg (.Call (.Name "range" p) [a, b] [] pos) (iRng2 ta) := by
 intro pins s σ H R I h
 refine Call_ (TD I hg hm boot_range (PyProof.Rows.callWith_type1 (thn (ha pos pins s σ H _ I h) fun us s1 ⟨vs, H1, I1, r1, q1⟩ => ?_) (by rw [hs, hs2]) (by rw [hs2]; rfl)))
 obtain ⟨i, j, e, ⟨q1, q2, q3, q4⟩, q⟩ := q1
 subst e
 cases r1 with
 | cons r rr =>
   cases rr with
   | cons r' rr =>
     cases rr
     obtain ⟨t, rfl⟩ := r
     obtain ⟨t', rfl⟩ := r'
     exact call_range_2 (range_it I1 q1 q2 q3 q4 q)
def tFor (wi : TI) (g : TG) (tb : TS) : TS := fun D σ H => wi σ H fun J H1 => ∃ W : Nat → Nat → St → Hp → Prop, (∃ m, W 0 m σ H1) ∧ ∀ i m σ H, W i m σ H →
 (J.stop i H ∧ D.nx σ H) ∨ (J.go i H ∧ ∃ N : St → Hp → Prop, (∀ σ' H', N σ' H' → ∃ m', m' < m ∧ W (i + 1) m' σ' H') ∧ ∀ x H', J.yld i H x H' → g x σ H' fun σ2 H2 => tb { D with nx := N, ct := N, bk := D.nx } σ2 H2)
def UR (fp : List Addr) (h : Heap) : List (Addr × Obj) := fp.filterMap fun b => (h.get? b).map fun o => (b, o)
theorem UU {fp : List Addr} {h : Heap} {b : Addr} {o : Obj} (hb : b ∈ fp) (e : h.get? b = some o) : (b, o) ∈ UR fp h := List.mem_filterMap.mpr ⟨b, hb, by rw [e]; rfl⟩
theorem RE {fp : List Addr} {h : Heap} {p : Addr × Obj} (hp : p ∈ UR fp h) : p.1 ∈ fp ∧ h.get? p.1 = some p.2 := by
 obtain ⟨b, hb, e⟩ := List.mem_filterMap.mp hp
 cases q : h.get? b with
 | none => rw [q] at e; cases e
 | some o =>
   rw [q] at e
   have e' : (b, o) = p := Option.some.inj e
   subst e'
   exact ⟨hb, q⟩
theorem Inv.pinned {pins : List (Addr × Obj)} {σ : St} {H : Hp} {s : Shared} {fp : List Addr} (I : Inv X pins σ H s) (hf : ∀ b ∈ fp, FpOk X pins H b) (ho : ∀ b ∈ fp, ∃ o, s.heap.get? b = some o ∧ ∀ v, o.data ≠ .cell v) : Inv X (pins ++ UR fp s.heap) σ H s :=
 I.pins_of fun p hp => (List.mem_append.mp hp).elim (fun z => I.pin p (List.mem_append_right _ z)) fun z => by
   obtain ⟨hb, e⟩ := RE z
   obtain ⟨f0, f1, f2, _⟩ := hf p.1 hb
   obtain ⟨o, e', d⟩ := ho p.1 hb
   rw [e] at e'; cases e'
   exact ⟨e, f0, f1, f2, d⟩
theorem Inv.unpinned {pins pl : List (Addr × Obj)} {σ : St} {H : Hp} {s : Shared} (I : Inv X (pins ++ pl) σ H s) : Inv X pins σ H s := I.pins_of fun p hp => I.pin p (List.mem_append_right _ (List.mem_append_left _ hp))
theorem Vp {iter : Expr} {body : List Stmt} {wi : TI} {g : TG} {tb : TS} {pos : Pos} (hp : PassesOwn (model X.prog X.w) X.A X.env X.xe) (hc : X.calm = true) (hi : PI X tg iter wi) (hg : PG X tg g) (hb : PSs X body tb)
   (hs : ∀ x, foldedSetIterable iter X.env x = pure x := by intro _; rfl) : PS X (.For tg iter body [] pos) (tFor wi g tb) := by
 intro pins s σ H D I h
 refine wpAny_For (thn (hi pins s σ H _ I h) fun v s1 h1 => thn h1 fun itv s2 h2 => ?_) hs
 obtain ⟨it, fp, tn, J, H2, e, I2, T, st2, f2, W, ⟨m0, w0⟩, turn⟩ := h2
 subst e
 have stat : ∀ {H' : Hp}, (∀ b ∈ fp, H' b = none) → ∀ b ∈ fp, FpOk X pins H' b := fun hn b hb => ⟨hn b hb, (f2 b hb).2⟩
 refine codeAny_forLoop_any (fun n s' => ∃ i σ' H', Inv X pins σ' H' s' ∧ tn i s'.heap ∧ (∀ b ∈ fp, H' b = none) ∧ W i n σ' H') ?_ m0 ⟨0, σ, H2, I2, st2, fun b hb => (f2 b hb).1, w0⟩
 rintro n s3 ⟨i, σ3, H3, I3, st3, fr3, w3⟩
 rcases turn i n σ3 H3 w3 with ⟨stop, qn⟩ | ⟨go, N, hN, step⟩
 · refine wpAny_passesOwn hp (thn (T.done X rfl rfl rfl hc i pins s3 σ3 H3 X.xe I3 (stat fr3) st3 stop) fun r s4 ⟨hr, I4⟩ => ?_)
   subst hr
   exact wpAny_execs_nil ⟨σ3, H3, I4, qn⟩
 · refine wpAny_passesOwn hp (thn (T.item X rfl rfl rfl hc i pins s3 σ3 H3 X.xe I3 (stat fr3) st3 go) fun r s4 ⟨u, hr, h4⟩ => ?_)
   subst hr
   refine wpAny_passesOwn hp (thn h4 fun _ s5 ⟨x, H5, I5, r5, y5, st5, fr5⟩ => ?_)
   have I5' := I5.pinned (stat fr5) (T.obj _ _ st5)
   refine wpAny_passesOwn hp (thn (hg _ s5 σ3 H5 x u _ I5' r5 (step x H5 y5)) fun _ s6 ⟨σ6, H6, I6, q6⟩ => ?_)
   refine wpAny_passesOwn hp (thn (hb _ s6 σ6 H6 _ I6 q6) fun f s7 q7 => ?_)
   have again : ∀ {σ7 : St} {H7 : Hp}, Inv X (pins ++ UR fp s5.heap) σ7 H7 s7 → N σ7 H7 → ∃ m, m < n ∧ ∃ i σ' H', Inv X pins σ' H' s7 ∧ tn i s7.heap ∧ (∀ b ∈ fp, H' b = none) ∧ W i m σ' H' := fun {σ7 H7} I7 n7 => by
     obtain ⟨m', hm, w7⟩ := hN σ7 H7 n7
     refine ⟨m', hm, i + 1, σ7, H7, I7.unpinned, T.keep _ _ _ st5 fun b hb o e => (I7.pin (b, o) (List.mem_append_right _ (List.mem_append_right _ (UU hb e)))).1, fun b hb => ?_, w7⟩
     obtain ⟨o, e, d⟩ := T.obj _ _ st5 b hb
     exact (I7.pin (b, o) (List.mem_append_right _ (List.mem_append_right _ (UU hb e)))).2.1
   cases f with
   | next => obtain ⟨σ7, H7, I7, n7⟩ := q7; exact again I7 n7
   | cont => obtain ⟨σ7, H7, I7, n7⟩ := q7; exact again I7 n7
   | brk => obtain ⟨σ7, H7, I7, q7⟩ := q7; exact ⟨σ7, H7, I7.unpinned, q7⟩
   | ret v => obtain ⟨x7, σ7, H7, I7, r7, q7⟩ := q7; exact ⟨x7, σ7, H7, I7.unpinned, r7, q7⟩
end
theorem SN {K : PySem.W.Frag} {a : Addr} {xs : List V} {g : TG} {tb : TS} {D : Ends} {σ : St} {H : Hp} (Pv : Nat → St → Hp → Prop) (h0 : Pv 0 σ H) (hl : ∀ i σ H, i ≤ xs.length → Pv i σ H → SqL K H a xs)
   (hs : ∀ i x σ H, xs[i]? = some x → Pv i σ H → g x σ H fun σ2 H2 => tb { D with nx := Pv (i + 1), ct := Pv (i + 1), bk := D.nx } σ2 H2) (hd : ∀ σ H, Pv xs.length σ H → D.nx σ H) :
   ∃ W : Nat → Nat → St → Hp → Prop, (∃ m, W 0 m σ H) ∧ ∀ i m σ H, W i m σ H →
     ((Itl K a).stop i H ∧ D.nx σ H) ∨ ((Itl K a).go i H ∧ ∃ N : St → Hp → Prop, (∀ σ' H', N σ' H' → ∃ m', m' < m ∧ W (i + 1) m' σ' H') ∧ ∀ x H', (Itl K a).yld i H x H' → g x σ H' fun σ2 H2 => tb { D with nx := N, ct := N, bk := D.nx } σ2 H2) := by
 refine ⟨fun i m σ H => m = xs.length - i ∧ i ≤ xs.length ∧ Pv i σ H, ⟨xs.length, by simp, Nat.zero_le _, h0⟩, ?_⟩
 rintro i m σ H ⟨rfl, hi, p⟩
 have q := hl i σ H hi p
 by_cases hlt : i < xs.length
 · refine .inr ⟨⟨xs, xs[i], q, by simp [hlt]⟩, Pv (i + 1), fun σ' H' p' => ⟨xs.length - (i + 1), by omega, rfl, hlt, p'⟩, fun x H' y => ?_⟩
   obtain ⟨e, y⟩ := y
   subst e
   exact hs i x σ _ (y xs q) p
 · have e : i = xs.length := by omega
   subst e
   exact .inl ⟨⟨xs, q, Nat.le_refl _⟩, hd σ H p⟩
theorem for_tup {K : PySem.W.Frag} {a : Addr} {xs : List V} {g : TG} {tb : TS} {D : Ends} {σ : St} {H : Hp} (Pv : Nat → St → Hp → Prop) (h0 : Pv 0 σ H) (hl : ∀ i σ H, i ≤ xs.length → Pv i σ H → SqT K H a xs)
   (hs : ∀ i x σ H, xs[i]? = some x → Pv i σ H → g x σ H fun σ2 H2 => tb { D with nx := Pv (i + 1), ct := Pv (i + 1), bk := D.nx } σ2 H2) (hd : ∀ σ H, Pv xs.length σ H → D.nx σ H) :
   ∃ W : Nat → Nat → St → Hp → Prop, (∃ m, W 0 m σ H) ∧ ∀ i m σ H, W i m σ H →
     ((Itt K a).stop i H ∧ D.nx σ H) ∨ ((Itt K a).go i H ∧ ∃ N : St → Hp → Prop, (∀ σ' H', N σ' H' → ∃ m', m' < m ∧ W (i + 1) m' σ' H') ∧ ∀ x H', (Itt K a).yld i H x H' → g x σ H' fun σ2 H2 => tb { D with nx := N, ct := N, bk := D.nx } σ2 H2) := by
 refine ⟨fun i m σ H => m = xs.length - i ∧ i ≤ xs.length ∧ Pv i σ H, ⟨xs.length, by simp, Nat.zero_le _, h0⟩, ?_⟩
 rintro i m σ H ⟨rfl, hi, p⟩
 have q := hl i σ H hi p
 by_cases hlt : i < xs.length
 · refine .inr ⟨⟨xs, xs[i], q, by simp [hlt]⟩, Pv (i + 1), fun σ' H' p' => ⟨xs.length - (i + 1), by omega, rfl, hlt, p'⟩, fun x H' y => ?_⟩
   obtain ⟨e, y⟩ := y
   subst e
   exact hs i x σ _ (y xs q) p
 · have e : i = xs.length := by omega
   subst e
   exact .inl ⟨⟨xs, q, Nat.le_refl _⟩, hd σ H p⟩
theorem Vk {lo : Int} {n : Nat} {g : TG} {tb : TS} {D : Ends} {σ : St} {H : Hp} (Pv : Nat → St → Hp → Prop) (h0 : Pv 0 σ H)
   (hs : ∀ i σ H, i < n → Pv i σ H → g (.int (lo + i)) σ H fun σ2 H2 => tb { D with nx := Pv (i + 1), ct := Pv (i + 1), bk := D.nx } σ2 H2) (hd : ∀ σ H, Pv n σ H → D.nx σ H) :
   ∃ W : Nat → Nat → St → Hp → Prop, (∃ m, W 0 m σ H) ∧ ∀ i m σ H, W i m σ H →
     ((Itr lo n).stop i H ∧ D.nx σ H) ∨ ((Itr lo n).go i H ∧ ∃ N : St → Hp → Prop, (∀ σ' H', N σ' H' → ∃ m', m' < m ∧ W (i + 1) m' σ' H') ∧ ∀ x H', (Itr lo n).yld i H x H' → g x σ H' fun σ2 H2 => tb { D with nx := N, ct := N, bk := D.nx } σ2 H2) := by
 refine ⟨fun i m σ H => m = n - i ∧ i ≤ n ∧ Pv i σ H, ⟨n, by simp, Nat.zero_le _, h0⟩, ?_⟩
 rintro i m σ H ⟨rfl, hi, p⟩
 by_cases hlt : i < n
 · refine .inr ⟨hlt, Pv (i + 1), fun σ' H' p' => ⟨n - (i + 1), by omega, rfl, hlt, p'⟩, fun x H' y => ?_⟩
   obtain ⟨e, y⟩ := y
   subst e y
   exact hs i σ _ hlt p
 · have e : i = n := by omega
   subst e
   exact .inl ⟨Nat.le_refl _, hd σ H p⟩
end L2
namespace L2
open PySem PySem.Spec PyProof.Rows
abbrev R2 := V → V → Hp → VK → Prop
def OpR (X : Cx) (f : Value → Value → Sem Value) (r : R2) : Prop :=
 ∀ (pins : List (Addr × Obj)) (s : Shared) (σ : St) (H : Hp) (x y : V) (v u : Value) (Q : VK), Inv X pins σ H s → RelV x v → RelV y u → r x y H Q →
   wpAny (model X.prog X.w) X.A (f v u) (EP X pins σ Q) X.xe s
def UnR (X : Cx) (f : Value → Sem Value) (r : V → Hp → VK → Prop) : Prop :=
 ∀ (pins : List (Addr × Obj)) (s : Shared) (σ : St) (H : Hp) (x : V) (v : Value) (Q : VK), Inv X pins σ H s → RelV x v → r x H Q →
   wpAny (model X.prog X.w) X.A (f v) (EP X pins σ Q) X.xe s
def VC (X : Cx) (f : Value) (r : List V → Hp → VK → Prop) : Prop :=
 ∀ (pins : List (Addr × Obj)) (s : Shared) (σ : St) (H : Hp) (xs : List V) (us : List Value) (Q : VK), Inv X pins σ H s → Vals xs us → r xs H Q →
   wpAny (model X.prog X.w) X.A (call f us) (EP X pins σ Q) X.xe s
def TruR (X : Cx) (r : V → Hp → (Bool → Hp → Prop) → Prop) : Prop :=
 ∀ (pins : List (Addr × Obj)) (s : Shared) (σ : St) (H : Hp) (x : V) (v : Value) (Q : Bool → Hp → Prop), Inv X pins σ H s → RelV x v → r x H Q →
   wpAny (model X.prog X.w) X.A (truthy v) (TP X pins σ Q) X.xe s
def tOp (r : R2) (ta tb : TE) : TE := fun σ H Q => ta σ H fun x H1 => tb σ H1 fun y H2 => r x y H2 Q
def tUn (r : V → Hp → VK → Prop) (ta : TE) : TE := fun σ H Q => ta σ H fun x H1 => r x H1 Q
def rI (C : Int → Int → Prop) (g : Int → Int → V) : R2 := fun x y H Q => ∃ i j, x = .int i ∧ y = .int j ∧ C i j ∧ Q (g i j) H
def rI0 (g : Int → Int → V) : R2 := fun x y H Q => ∃ i j, x = .int i ∧ y = .int j ∧ Q (g i j) H
def rU (g : Int → V) : V → Hp → VK → Prop := fun x H Q => ∃ i, x = .int i ∧ Q (g i) H
section
variable {X : Cx} {a b c : Expr} {ta tb tc : TE} {pos : Pos}
theorem binT (ha : PE X a ta) (hb : PE X b tb) {pins : List (Addr × Obj)} {s : Shared} {σ : St} {H : Hp} {R : V → V → Hp → Prop} (I : Inv X pins σ H s)
   (h : ta σ H fun x H1 => tb σ H1 fun y H2 => R x y H2) {Q : Value → Shared → Prop} {f : Value → Value → Sem Value}
   (hf : ∀ v u s2 x y H2, Inv X pins σ H2 s2 → RelV x v → RelV y u → R x y H2 → wpAny (model X.prog X.w) X.A (f v u) Q X.xe s2) :
   wpAny (model X.prog X.w) X.A (eval a X.env) (fun v s₁ => wpAny (model X.prog X.w) X.A (eval b X.env) (fun u s₂ => wpAny (model X.prog X.w) X.A (f v u) Q X.xe s₂) X.xe s₁) X.xe s := by
 refine thn (ha pins s σ H _ I h) fun v s1 ⟨x, H1, I1, r1, q1⟩ => ?_
 refine thn (hb pins s1 σ H1 _ I1 q1) fun u s2 ⟨y, H2, I2, r2, q2⟩ => ?_
 exact hf v u s2 x y H2 I2 r1 r2 q2
theorem Zp {op : Operator} {r : R2} (ho : OpR X (binaryOp op) r) (ha : PE X a ta) (hb : PE X b tb) : PE X (.BinOp a op b pos) (tOp r ta tb) := by
 intro pins s σ H Q I h
 exact wpAny_BinOp (binT ha hb I h fun v u s2 x y H2 I2 rx ry q => ho pins s2 σ H2 x y v u Q I2 rx ry q)
theorem pe_un {op : UnaryOp} {r : V → Hp → VK → Prop} (ho : UnR X (unaryOp op) r) (ha : PE X a ta) : PE X (.UnaryOp op a pos) (tUn r ta) := by
 intro pins s σ H Q I h
 exact UnaryOp_ (thn (ha pins s σ H _ I h) fun v s1 ⟨x, H1, I1, r1, q1⟩ => ho pins s1 σ H1 x v Q I1 r1 q1)
theorem opI {f : Value → Value → Sem Value} {C : Int → Int → Prop} {g : Int → Int → Int}
   (rule : ∀ (i j : Int) (t u : Tok) (s : Shared) (Q : Value → Shared → Prop) (E : Value → Shared → Prop), C i j → Q (.int (g i j) s.toks) { s with toks := s.toks + 1 } → wpAny (model X.prog X.w) X.A (f (.int i t) (.int j u)) Q E s) :
   OpR X f (rI C fun i j => .int (g i j)) := by
 intro pins s σ H x y v u Q I rx ry h
 obtain ⟨i, j, rfl, rfl, hc, q⟩ := h
 obtain ⟨t, rfl⟩ := rx
 obtain ⟨t', rfl⟩ := ry
 exact rule i j t t' s _ _ hc ⟨.int (g i j), H, I.tok _, ⟨_, rfl⟩, q⟩
theorem opI0 {f : Value → Value → Sem Value} {g : Int → Int → Int}
   (rule : ∀ (i j : Int) (t u : Tok) (s : Shared) (Q : Value → Shared → Prop) (E : Value → Shared → Prop), Q (.int (g i j) s.toks) { s with toks := s.toks + 1 } → wpAny (model X.prog X.w) X.A (f (.int i t) (.int j u)) Q E s) :
   OpR X f (rI0 fun i j => .int (g i j)) := by
 intro pins s σ H x y v u Q I rx ry h
 obtain ⟨i, j, rfl, rfl, q⟩ := h
 obtain ⟨t, rfl⟩ := rx
 obtain ⟨t', rfl⟩ := ry
 exact rule i j t t' s _ _ ⟨.int (g i j), H, I.tok _, ⟨_, rfl⟩, q⟩
theorem opB0 {f : Value → Value → Sem Value} {g : Int → Int → Bool}
   (rule : ∀ (i j : Int) (t u : Tok) (s : Shared) (Q : Value → Shared → Prop) (E : Value → Shared → Prop), Q (.bool (g i j)) s → wpAny (model X.prog X.w) X.A (f (.int i t) (.int j u)) Q E s) :
   OpR X f (rI0 fun i j => .bl (g i j)) := by
 intro pins s σ H x y v u Q I rx ry h
 obtain ⟨i, j, rfl, rfl, q⟩ := h
 obtain ⟨t, rfl⟩ := rx
 obtain ⟨t', rfl⟩ := ry
 exact rule i j t t' s _ _ ⟨.bl (g i j), H, I, rfl, q⟩
def CMul (i j : Int) : Prop := (-(2 ^ 64) < i ∧ i < 2 ^ 64) ∨ (-(2 ^ 64) < j ∧ j < 2 ^ 64)
theorem CMul.ok {i j : Int} (h : CMul i j) : IntMulOk i j := by
 rcases h with ⟨h1, h2⟩ | ⟨h1, h2⟩
 · exact .of_left (intBits_le_64 h1 h2)
 · exact .of_right (intBits_le_64 h1 h2)
theorem Yg : OpR X (binaryOp .Add) (rI0 fun i j => .int (i + j)) := opI0 fun _ _ _ _ _ _ _ q => add_int q
theorem XY : OpR X (binaryOp .Sub) (rI0 fun i j => .int (i - j)) := opI0 fun _ _ _ _ _ _ _ q => sub_int q
theorem Xj : OpR X (binaryOp .Mult) (rI CMul fun i j => .int (i * j)) := opI fun _ _ _ _ _ _ _ hc q => mul_int q hc.ok
theorem Yc : OpR X (binaryOp .Mod) (rI (fun _ j => 0 < j) fun i j => .int (i % j)) := opI fun i j _ _ _ _ _ hc q => by
 have h1 : (0 : Int) < j := hc
 exact mod_int' (by omega) (by rw [Int.fmod_eq_emod_of_nonneg i (by omega)]; exact q)
theorem unI {f : Value → Sem Value} {g : Int → Int}
   (rule : ∀ (i : Int) (t : Tok) (s : Shared) (Q : Value → Shared → Prop) (E : Value → Shared → Prop), Q (.int (g i) s.toks) { s with toks := s.toks + 1 } → wpAny (model X.prog X.w) X.A (f (.int i t)) Q E s) :
   UnR X f (rU fun i => .int (g i)) := by
 intro pins s σ H x v Q I rx h
 obtain ⟨i, rfl, q⟩ := h
 obtain ⟨t, rfl⟩ := rx
 exact rule i t s _ _ ⟨.int (g i), H, I.tok _, ⟨_, rfl⟩, q⟩
theorem un_neg : UnR X (unaryOp .USub) (rU fun i => .int (-i)) := unI fun _ _ _ _ _ q => neg_int q
end
def scal : V → V → Bool
 | .non, .non => true | .non, .int _ => true | .int _, .non => true | .non, .bl _ => true | .bl _, .non => true | .non, .str _ => true | .str _, .non => true
 | .int _, .int _ => true | .bl _, .bl _ => true | .str _, .str _ => true | .byt _, .byt _ => true
 | .int _, .str _ => true | .str _, .int _ => true | .bl _, .str _ => true | .str _, .bl _ => true
 | _, _ => false
def rEq : R2 := fun x y H Q => scal x y = true ∧ Q (.bl (decide (x = y))) H
def rNe : R2 := fun x y H Q => scal x y = true ∧ Q (.bl (!decide (x = y))) H
theorem dec_int {i j : Int} : decide (V.int i = V.int j) = (i == j) := by
 rw [Bool.eq_iff_iff]
 simp
theorem dec_bl {i j : Bool} : decide (V.bl i = V.bl j) = (i == j) := by
 rw [Bool.eq_iff_iff]
 simp
theorem dec_str {i j : Str} : decide (V.str i = V.str j) = (i == j) := by
 rw [Bool.eq_iff_iff]
 simp
theorem dec_byt {i j : Array UInt8} : decide (V.byt i = V.byt j) = (i.toList == j.toList) := by
 rw [Bool.eq_iff_iff]
 cases i
 cases j
 simp
section
variable {X : Cx} {a b c : Expr} {ta tb tc : TE} {pos : Pos}
theorem ZQ {pins : List (Addr × Obj)} {σ : St} {H : Hp} {s : Shared} {Q : VK} {k k' : Bool} (I : Inv X pins σ H s) (q : Q (.bl k) H) (e : k = k') : EP X pins σ Q (.bool k') s := by
 subst e
 exact ⟨.bl k, H, I, rfl, q⟩
theorem Xy : OpR X (compareOp .Eq) rEq := by
 intro pins s σ H x y v u Q I rx ry h
 obtain ⟨hs, q⟩ := h
 cases x with
 | non =>
   cases rx
   cases y with
   | non => cases ry; exact PySem.EqNone.eq_none_none (ZQ I q (by simp))
   | bl j => cases ry; exact PySem.EqNone.eq_none_bool (ZQ I q (by simp))
   | int j => obtain ⟨t', rfl⟩ := ry; exact PySem.EqNone.eq_none_int (ZQ I q (by simp))
   | str j => obtain ⟨t', rfl⟩ := ry; exact PySem.EqNone.eq_none_str (ZQ I q (by simp))
   | _ => exact absurd (show false = true from hs) Bool.false_ne_true
 | bl i =>
   cases rx
   cases y with
   | non => cases ry; exact PySem.EqNone.eq_bool_none (ZQ I q (by simp))
   | bl j => cases ry; exact eq_bool (ZQ I q dec_bl)
   | str j => obtain ⟨t', rfl⟩ := ry; exact PySem.EqMixed.eq_bool_str (ZQ I q (by simp))
   | _ => exact absurd (show false = true from hs) Bool.false_ne_true
 | int i =>
   obtain ⟨t, rfl⟩ := rx
   cases y with
   | non => cases ry; exact PySem.EqNone.eq_int_none (ZQ I q (by simp))
   | int j => obtain ⟨t', rfl⟩ := ry; exact eq_int (ZQ I q dec_int)
   | str j => obtain ⟨t', rfl⟩ := ry; exact PySem.EqMixed.eq_int_str (ZQ I q (by simp))
   | _ => exact absurd (show false = true from hs) Bool.false_ne_true
 | str i =>
   obtain ⟨t, rfl⟩ := rx
   cases y with
   | non => cases ry; exact PySem.EqNone.eq_str_none (ZQ I q (by simp))
   | bl j => cases ry; exact PySem.EqMixed.eq_str_bool (ZQ I q (by simp))
   | int j => obtain ⟨t', rfl⟩ := ry; exact PySem.EqMixed.eq_str_int (ZQ I q (by simp))
   | str j => obtain ⟨t', rfl⟩ := ry; exact eq_str (ZQ I q dec_str)
   | _ => exact absurd (show false = true from hs) Bool.false_ne_true
 | byt i =>
   obtain ⟨t, rfl⟩ := rx
   cases y with
   | byt j => obtain ⟨t', rfl⟩ := ry; exact W.eq_bytes (ZQ I q dec_byt)
   | _ => exact absurd (show false = true from hs) Bool.false_ne_true
 | _ => cases y <;> exact absurd (show false = true from hs) Bool.false_ne_true
theorem op_ne : OpR X (compareOp .NotEq) rNe := by
 intro pins s σ H x y v u Q I rx ry h
 obtain ⟨hs, q⟩ := h
 cases x with
 | non =>
   cases rx
   cases y with
   | non => cases ry; exact PySem.EqNone.ne_none_none (ZQ I q (by simp))
   | bl j => cases ry; exact PySem.EqNone.ne_none_bool (ZQ I q (by simp))
   | int j => obtain ⟨t', rfl⟩ := ry; exact PySem.EqNone.ne_none_int (ZQ I q (by simp))
   | str j => obtain ⟨t', rfl⟩ := ry; exact PySem.EqNone.ne_none_str (ZQ I q (by simp))
   | _ => exact absurd (show false = true from hs) Bool.false_ne_true
 | bl i =>
   cases rx
   cases y with
   | non => cases ry; exact PySem.EqNone.ne_bool_none (ZQ I q (by simp))
   | bl j => cases ry; exact ne_bool (ZQ I q (congrArg not dec_bl))
   | str j => obtain ⟨t', rfl⟩ := ry; exact PySem.EqMixed.ne_bool_str (ZQ I q (by simp))
   | _ => exact absurd (show false = true from hs) Bool.false_ne_true
 | int i =>
   obtain ⟨t, rfl⟩ := rx
   cases y with
   | non => cases ry; exact PySem.EqNone.ne_int_none (ZQ I q (by simp))
   | int j => obtain ⟨t', rfl⟩ := ry; exact ne_int (ZQ I q (congrArg not dec_int))
   | str j => obtain ⟨t', rfl⟩ := ry; exact PySem.EqMixed.ne_int_str (ZQ I q (by simp))
   | _ => exact absurd (show false = true from hs) Bool.false_ne_true
 | str i =>
   obtain ⟨t, rfl⟩ := rx
   cases y with
   | non => cases ry; exact PySem.EqNone.ne_str_none (ZQ I q (by simp))
   | bl j => cases ry; exact PySem.EqMixed.ne_str_bool (ZQ I q (by simp))
   | int j => obtain ⟨t', rfl⟩ := ry; exact PySem.EqMixed.ne_str_int (ZQ I q (by simp))
   | str j => obtain ⟨t', rfl⟩ := ry; exact ne_str (ZQ I q (congrArg not dec_str))
   | _ => exact absurd (show false = true from hs) Bool.false_ne_true
 | byt i =>
   obtain ⟨t, rfl⟩ := rx
   cases y with
   | byt j => obtain ⟨t', rfl⟩ := ry; exact W.ne_bytes (ZQ I q (congrArg not dec_byt))
   | _ => exact absurd (show false = true from hs) Bool.false_ne_true
 | _ => cases y <;> exact absurd (show false = true from hs) Bool.false_ne_true
theorem Um : OpR X (compareOp .Lt) (rI0 fun i j => .bl (decide (i < j))) := opB0 fun _ _ _ _ _ _ _ q => lt_int q
theorem RC : OpR X (compareOp .LtE) (rI0 fun i j => .bl (decide (i ≤ j))) := opB0 fun _ _ _ _ _ _ _ q => le_int q
theorem op_gt : OpR X (compareOp .Gt) (rI0 fun i j => .bl (decide (j < i))) := opB0 fun _ _ _ _ _ _ _ q => gt_int q
theorem op_ge : OpR X (compareOp .GtE) (rI0 fun i j => .bl (decide (j ≤ i))) := opB0 fun _ _ _ _ _ _ _ q => ge_int q
theorem XZ : OpR X (compareOp .Is) (fun x y H Q => y = .non ∧ Q (.bl (decide (x = .non))) H) := by
 intro pins s σ H x y v u Q I rx ry h
 obtain ⟨rfl, q⟩ := h
 cases ry
 refine is_none_gen (ZQ I q ?_)
 cases x <;> first
   | (cases rx; rfl)
   | (obtain ⟨t, rfl⟩ := rx; rfl)
theorem Vv : OpR X (compareOp .IsNot) (fun x y H Q => y = .non ∧ Q (.bl (!decide (x = .non))) H) := by
 intro pins s σ H x y v u Q I rx ry h
 obtain ⟨rfl, q⟩ := h
 cases ry
 refine isnot_none_gen (ZQ I q ?_)
 cases x <;> first
   | (cases rx; rfl)
   | (obtain ⟨t, rfl⟩ := rx; rfl)
theorem Zv (b : Expr) {op : CmpOp} (h : op ≠ .In := by decide) (h2 : op ≠ .NotIn := by decide) : behindInMarks op b = false := by
 have e1 : (op == CmpOp.In) = false := by cases op <;> first | rfl | exact absurd rfl h
 have e2 : (op == CmpOp.NotIn) = false := by cases op <;> first | rfl | exact absurd rfl h2
 cases b <;> simp [behindInMarks, e1, e2]
theorem Te {op : CmpOp} {r : R2} (ho : OpR X (compareOp op) r) (ha : PE X a ta) (hb : PE X b tb) (hm : behindInMarks op b = false) : PE X (.Compare a [op] [b] pos) (tOp r ta tb) := by
 intro pins s σ H Q I h
 exact wpAny_Compare1 (binT ha hb I h fun v u s2 x y H2 I2 rx ry q => ho pins s2 σ H2 x y v u Q I2 rx ry q) hm
def tTest (t : TE) : TT := fun σ H Q => t σ H fun x H' => ∃ k, x = .bl k ∧ Q k H'
theorem Zo {op : CmpOp} {r : R2} (ho : OpR X (compareOp op) r) (ha : PE X a ta) (hb : PE X b tb) (hm : behindInMarks op b = false) : PT X (.Compare a [op] [b] pos) (tTest (tOp r ta tb)) := by
 intro pins s σ H Q I h
 refine wpAny_isTrue_Compare1 (thn (ha pins s σ H _ I h) fun v s1 ⟨x, H1, I1, r1, q1⟩ => thn (hb pins s1 σ H1 _ I1 q1) fun u s2 ⟨y, H2, I2, r2, q2⟩ =>
   thn (ho pins s2 σ H2 x y v u _ I2 r1 r2 q2) fun c s3 ⟨z, H3, I3, r3, k, e, q3⟩ => ?_) hm
 subst e
 cases r3
 exact wpAny_truthy_bool ⟨H3, I3, q3⟩
def tChain (r r' : R2) (ta tb tc : TE) : TE := fun σ H Q => ta σ H fun x H1 => tb σ H1 fun y H2 => r x y H2 fun z H3 => ∃ k, z = .bl k ∧
 (if k = true then tc σ H3 fun w' H4 => r' y w' H4 Q else Q (.bl false) H3)
theorem pt_chain {op op' : CmpOp} {r r' : R2} (ho : OpR X (compareOp op) r) (ho' : OpR X (compareOp op') r') (ha : PE X a ta) (hb : PE X b tb) (hc : PE X c tc)
   (hm : lastMarks [op, op'] [b, c] = false := by with_unfolding_all rfl) : PT X (.Compare a [op, op'] [b, c] pos) (tTest (tChain r r' ta tb tc)) := by
 intro pins s σ H Q I h
 refine isTrue_chain (thn (ha pins s σ H _ I h) fun v s1 ⟨x, H1, I1, r1, q1⟩ => test_link (thn (hb pins s1 σ H1 _ I1 q1) fun u s2 ⟨y, H2, I2, r2, q2⟩ =>
   thn (ho pins s2 σ H2 x y v u _ I2 r1 r2 q2) fun d s3 ⟨z, H3, I3, r3, k, e, q3⟩ => ?_)) hm
 subst e
 cases r3
 refine wpAny_truthy_bool ?_
 cases k with
 | false =>
   obtain ⟨k', e', q'⟩ := q3
   cases e'
   exact ite_ff ⟨H3, I3, q'⟩
 | true =>
   refine ite_tt (test_last (thn (hc pins s3 σ H3 _ I3 q3) fun w' s4 ⟨z', H4, I4, r4, q4⟩ => thn (ho' pins s4 σ H4 y z' u w' _ I4 r2 r4 q4) fun d' s5 ⟨z2, H5, I5, r5, k2, e2, q5⟩ => ?_))
   subst e2
   cases r5
   exact wpAny_truthy_bool ⟨H5, I5, q5⟩
def TruV (K : W.Frag) (x : V) (H : Hp) (k : Bool) : Prop :=
 match x with
 | .non => k = false
 | .bl b => k = b
 | .int i => k = (i != 0)
 | .str y => y.length ≤ sizeLine ∧ k = ((y.length : Int) != 0)
 | .byt y => y.size ≤ sizeLine ∧ k = ((y.size : Int) != 0)
 | .ref p => (∃ xs, SqL K H p xs ∧ k = !xs.isEmpty) ∨ (∃ xs, SqT K H p xs ∧ k = !xs.isEmpty) ∨ ∃ kvs, H p = some (.dK kvs) ∧ k = !kvs.isEmpty
 | _ => False
theorem isEmpty_kv {κ : Type} {kvs : List (κ × V)} {vs : List (κ × Value)} (r : KV kvs vs) : (!vs.isEmpty) = !kvs.isEmpty := by
 cases r <;> rfl
theorem SM {xs : List V} {its : List Value} (r : Vals xs its) : (!its.toArray.isEmpty) = !xs.isEmpty := by
 cases r <;> simp
theorem QC : (sizeLine : Nat) < 2 ^ 63 := by rw [sizeLine_eq]; decide
theorem tru_ok : TruR X (fun x H Q => ∃ k, TruV X.K x H k ∧ Q k H) := by
 intro pins s σ H x v Q I rx h
 obtain ⟨k, e, q⟩ := h
 have hl := QC
 have hs : sizeLine = 16777216 := sizeLine_eq
 cases x with
 | non =>
   cases rx
   have e' : k = false := e
   subst e'
   exact truthy_none ⟨H, I, q⟩
 | bl b =>
   cases rx
   have e' : k = b := e
   subst e'
   exact wpAny_truthy_bool ⟨H, I, q⟩
 | int i =>
   obtain ⟨t, rfl⟩ := rx
   have e' : k = (i != 0) := e
   subst e'
   exact PySem.P.truthy_int ⟨H, I, q⟩
 | str y =>
   obtain ⟨t, rfl⟩ := rx
   obtain ⟨hy, e'⟩ : y.length ≤ sizeLine ∧ k = ((y.length : Int) != 0) := e
   subst e'
   exact PySem.P.truthy_str (by omega) ⟨H, I.tok _, q⟩
 | byt y =>
   obtain ⟨t, rfl⟩ := rx
   obtain ⟨hy, e'⟩ : y.size ≤ sizeLine ∧ k = ((y.size : Int) != 0) := e
   subst e'
   exact W.truthy_bytes (by omega) ⟨H, I.tok _, q⟩
 | ref p =>
   cases rx
   have e' : (∃ xs, SqL X.K H p xs ∧ k = !xs.isEmpty) ∨ (∃ xs, SqT X.K H p xs ∧ k = !xs.isEmpty) ∨ ∃ kvs, H p = some (.dK kvs) ∧ k = !kvs.isEmpty := e
   rcases e' with ⟨xs, hx, e'⟩ | ⟨xs, hx, e'⟩ | ⟨kvs, hx, e'⟩
   · subst e'
     obtain ⟨its, r, pl, hz⟩ := I.list hx
     have hlen := r.length
     exact wpAny_truthy_list pl.isList (by simp only [List.size_toArray]; omega) ⟨H, I.tok _, by rw [SM r]; exact q⟩
   · subst e'
     obtain ⟨its, r, pl, hz⟩ := I.tuple hx
     have hlen := r.length
     exact truthy_tuple pl (by simp only [List.size_toArray]; omega) ⟨H, I.tok _, by rw [SM r]; exact q⟩
   · subst e'
     obtain ⟨hz, hS, vs, r, m⟩ : kvs.length ≤ sizeLine ∧ (p == sysModules) = false ∧ ∃ vs, KV kvs vs ∧ s.heap.DictOf (ZH X.prog X.w) p vs := I.hok p _ hx
     have hlen : kvs.length = vs.length := Paired.length r
     exact wpAny_truthy_dict hS m (by omega) ⟨H, I.tok _, by rw [isEmpty_kv r]; exact q⟩
 | _ => exact (show False from e).elim
theorem Vo (ha : PE X a ta) (he : ∀ whole, isTrue a X.env whole = (do let v ← whole; standAt a.pos; holding [v] (truthy v))) :
   PT X a (fun σ H Q => ta σ H fun x H' => ∃ k, TruV X.K x H' k ∧ Q k H') := by
 intro pins s σ H Q I h
 exact isTrue_plain (thn (ha pins s σ H _ I h) fun v s1 ⟨x, H1, I1, r1, q1⟩ => tru_ok pins s1 σ H1 x v Q I1 r1 q1) (he _)
theorem VZ {x : V} {us : List Value} (r : Vals [x] us) : ∃ u, us = [u] ∧ RelV x u := by
 cases r with
 | cons r1 r2 => cases r2; exact ⟨_, rfl, r1⟩
theorem vals2 {x y : V} {us : List Value} (r : Vals [x, y] us) : ∃ u w', us = [u, w'] ∧ RelV x u ∧ RelV y w' := by
 cases r with
 | cons r1 r2 =>
   cases r2 with
   | cons r3 r4 => cases r4; exact ⟨_, _, rfl, r1, r3⟩
theorem call_max2 (hc : X.calm = true) : VC X (.builtin "max") (fun xs H Q => ∃ i j, xs = [.int i, .int j] ∧ Q (.int (if j > i then j else i)) H) := by
 intro pins s σ H xs us Q I r h
 obtain ⟨i, j, rfl, q⟩ := h
 obtain ⟨u, w', rfl, ⟨t, rfl⟩, ⟨t', rfl⟩⟩ := vals2 r
 refine max_two_ints (I.ok.hd hc) fun h' tk k => ⟨_, H, I.kept k, ?_, q⟩
 by_cases hj : j > i
 · rw [if_pos hj, if_pos hj]; exact ⟨_, rfl⟩
 · rw [if_neg hj, if_neg hj]; exact ⟨_, rfl⟩
theorem RQ : VC X (.type "int") (fun xs H Q => (∃ i, xs = [.int i] ∧ Q (.int i) H) ∨ ∃ k, xs = [.bl k] ∧ Q (.int (if k then 1 else 0)) H) := by
 intro pins s σ H xs us Q I r h
 rcases h with ⟨i, rfl, q⟩ | ⟨k, rfl, q⟩
 · obtain ⟨u, rfl, t, rfl⟩ := VZ r
   exact call_int_int ⟨.int i, H, I, ⟨_, rfl⟩, q⟩
 · obtain ⟨u, rfl, r1⟩ := VZ r
   cases r1
   exact call_int_bool ⟨.int (if k then 1 else 0), H, I.tok _, ⟨_, rfl⟩, q⟩
end
end L2
namespace L2
open PySem PySem.Spec PyProof.Rows
structure ObjM (h : Heap) (x dx C : Addr) (mA : Str → Option Value) : Prop where
 obj : h.get? x = some (W.instObj C dx)
 ns : h.Ns1 dx mA
 ne : dx ≠ x
theorem lookIn_ns {h : Heap} {dx : Addr} {mA : Str → Option Value} (n : h.Ns1 dx mA) : ∃ od, h.get? dx = some od ∧ ∀ name, W.lookIn name od = some (mA name) := by
 obtain ⟨o, es, ep, ho, hd, hk, _, hm⟩ := n
 refine ⟨o, ho, fun name => ?_⟩
 have e := hm name
 unfold nsFind findBy at e
 rw [← Array.find?_toList] at e
 unfold W.lookIn
 rw [hd]
 dsimp only
 split
 · rename_i y q
   rw [q] at e
   exact congrArg some e
 · rename_i q
   rw [q] at e
   have a : es.toList.any (·.refKey) = false := by
     rw [List.any_eq_false]
     intro y hy
     obtain ⟨z, t, hkey⟩ := hk y (Array.mem_toList_iff.mp hy)
     simp [DictEntry.refKey, hkey]
   have a' : ¬ es.toList.any (·.refKey) = true := by rw [a]; exact Bool.false_ne_true
   rw [if_neg a']
   exact congrArg some e
theorem ObjM.look {h : Heap} {x dx C : Addr} {mA : Str → Option Value} (I : ObjM h x dx C mA) : ∃ od, W.InstAt h x (W.instObj C dx) C (some od) ∧ ∀ name, W.lookIn name od = some (mA name) :=
 let ⟨od, ho, hl⟩ := lookIn_ns I.ns
 ⟨od, ⟨I.obj, rfl, rfl, ho⟩, hl⟩
section
variable {prog : Program} {w : World} {A : Around} {E : Value → Shared → Prop} {s : Shared} {K : W.Frag} {x dx C f : Addr} {mA : Str → Option Value} {name : Str} {v : Value}
theorem get_map {expr : Bool} {Q : Value → Shared → Prop} (X : K.In s.heap) (I : ObjM s.heap x dx C mA) (hg : W.plainGet K C name = true) (hh : W.hasDictIn K C = true)
   (ha : W.findIn K (.ref C) name = some none) (hv : mA name = some v) (hv' : W.handedIn v = true) (h : Q v { s with toks := s.toks + 1 }) :
   wpAny (model prog w) A (getAttr (.ref x) name expr) Q E s := by
 obtain ⟨od, J, hl⟩ := I.look
 exact W.get_value X J (W.plainGet_of hg).1 (W.findObj_own hh ha rfl (by rw [hl, hv])) hv' h
theorem get_meth {pl : Sem Bool} {Q : Value × List Value → Shared → Prop} (X : K.In s.heap) (I : ObjM s.heap x dx C mA) (hg : W.plainGet K C name = true)
   (hf : W.findIn K (.ref C) name = some (some (.ref f))) (ht : W.isFn K (.ref f) = true) (hv : mA name = none) (h : Q (.ref f, [.ref x]) s) :
   wpAny (model prog w) A (getMethod (.ref x) name pl) Q E s := by
 obtain ⟨od, J, hl⟩ := I.look
 exact W.method_fn X J (W.plainGet_of hg).1 (W.plainGet_of hg).2 hf (beq_iff_eq.mp ht) (by show (W.lookIn name od).map (·.isSome) = some false; rw [hl, hv]; rfl) h
theorem set_map {ns : List Str} {Q : Unit → Shared → Prop} (X : K.In s.heap) (I : ObjM s.heap x dx C mA)
   (hs : W.findIn K (.ref C) "__setattr__" = some (some (.builtin "object.__setattr__"))) (hp : W.plainOver K C = true) (ht : W.takerIn K C name = some none) (hh : W.hasDictIn K C = true)
   (hw : PySem.Within mA ns) (hsz : ns.length ≤ sizeLine)
   (h : ∀ h', ObjM h' x dx C (fun y => if y = name then some v else mA y) → Heap.SameBut dx s.heap h' → Q () { s with heap := h', toks := s.toks + 2 }) :
   wpAny (model prog w) A (setAttr (.ref x) name v) Q E s := by
 obtain ⟨od, J, hl⟩ := I.look
 refine W.set_plain X J hs (W.osa_open (s := { s with toks := s.toks + 1 }) (r := none) X J hp ht fun b => ?_)
 obtain ⟨cd, hc, hd'⟩ := W.any_some hh
 have hx : s.heap.get? x = some ⟨.ref C, some dx, .plain, #[]⟩ := I.obj
 refine wpAny_bind (wpAny_pure (wpAny_bind (wpAny_bind (wpAny_loadPart hx (wpAny_bind (W.Looks.here (s := { s with toks := s.toks + 1 }) (W.looks_clsIn X hc) ?_))))))
 rw [hd']
 refine wpAny_pure (a := some dx) (wpAny_bind (wpAny_pure (wpAny_bind ?_)))
 refine wpAny_nsSet1 (s := { s with toks := s.toks + 1 }) I.ns fun h' hn2 hs2 => ?_
 obtain ⟨oD, esD, epD, hoD, hdD, hcD⟩ := hn2.count (PySem.Within.cons name v hw)
 refine wpAny_bind (wpAny_lookBehind hoD (by rw [hdD]; exact pastItsLine_dict (Nat.le_trans hcD (by rw [List.length_cons]; omega))) ?_)
 exact wpAny_pure (h _ ⟨(hs2.2 _ (Ne.symm I.ne)).trans I.obj, hn2, I.ne⟩ hs2)
theorem make_map {R : Result → Shared → Prop} {vs : List Value} {kw : List (Str × Value)} (X : K.In s.heap) (hm : W.makesIn K C = true)
   (hi : W.findIn K (.ref C) "__init__" = some (some (.ref f))) (hf : W.typeIn K (.ref f) = some (.type "function"))
   (h : codeAny (model prog w) (A.under (.builtin "type.__call__" ⟨.ref C :: vs, kw⟩)) (.call (.ref f) ⟨.ref (s.heap.objs.size + 1) :: vs, kw⟩) (W.InitBack (s.heap.objs.size + 1) R)
     { s with heap := (s.heap.push W.emptyDict).push (W.instObj C s.heap.objs.size) }) :
   codeAny (model prog w) A (.call (.ref C) ⟨vs, kw⟩) R s := by
 obtain ⟨hh, g, d, t, os⟩ := s
 exact W.make_core (W.makes_of X hm) (W.looks_findIn X hi) (fun self => W.bind_fn X self hf) (.inl rfl) h
end
def putF (f : Str) (v : V) : List (Str × V) → List (Str × V)
 | [] => [(f, v)]
 | (g, x) :: r => if g = f then (g, v) :: r else (g, x) :: putF f v r
theorem TM (f g : Str) (v : V) : ∀ fs : List (Str × V), (putF f v fs).lookup g = if g = f then some v else fs.lookup g
 | [] => by
   show List.lookup g [(f, v)] = _
   by_cases h : g = f
   · have hb : (g == f) = true := beq_iff_eq.mpr h
     simp only [List.lookup, hb, if_pos h]
   · have hb : (g == f) = false := beq_eq_false_iff_ne.mpr h
     simp only [List.lookup, hb, if_neg h]
 | (k, x) :: r => by
   have ih := TM f g v r
   rw [show putF f v ((k, x) :: r) = (if k = f then (k, v) :: r else (k, x) :: putF f v r) from rfl]
   by_cases hk : k = f
   · rw [if_pos hk]
     by_cases h : g = k
     · have hb : (g == k) = true := beq_iff_eq.mpr h
       simp only [List.lookup, hb, if_pos (h.trans hk)]
     · have hb : (g == k) = false := beq_eq_false_iff_ne.mpr h
       simp only [List.lookup, hb, if_neg (fun e : g = f => h (e.trans hk.symm))]
   · rw [if_neg hk]
     by_cases h : g = k
     · have hb : (g == k) = true := beq_iff_eq.mpr h
       simp only [List.lookup, hb, if_neg (fun e : g = f => hk (h.symm.trans e))]
     · have hb : (g == k) = false := beq_eq_false_iff_ne.mpr h
       simp only [List.lookup, hb]
       exact ih
theorem TH (f : Str) (v : V) : ∀ fs : List (Str × V), f ∈ (putF f v fs).map (·.1) ∧ ∀ g, g ∈ fs.map (·.1) → g ∈ (putF f v fs).map (·.1)
 | [] => ⟨by simp [putF], fun g h => by simp at h⟩
 | (k, x) :: r => by
   obtain ⟨i1, i2⟩ := TH f v r
   rw [show putF f v ((k, x) :: r) = (if k = f then (k, v) :: r else (k, x) :: putF f v r) from rfl]
   by_cases hk : k = f
   · rw [if_pos hk]
     subst hk
     exact ⟨by simp, fun g h => by simpa using h⟩
   · rw [if_neg hk]
     refine ⟨?_, fun g h => ?_⟩
     · rw [List.map_cons]
       exact List.mem_cons_of_mem _ i1
     · rw [List.map_cons] at h ⊢
       rcases List.mem_cons.mp h with e | e
       · exact List.mem_cons.mpr (.inl e)
       · exact List.mem_cons_of_mem _ (i2 g e)
theorem TN (f : Str) (v : V) : ∀ fs : List (Str × V), (putF f v fs).length ≤ fs.length + 1
 | [] => by simp [putF]
 | (k, x) :: r => by
   have ih := TN f v r
   rw [show putF f v ((k, x) :: r) = (if k = f then (k, v) :: r else (k, x) :: putF f v r) from rfl]
   by_cases hk : k = f
   · rw [if_pos hk, List.length_cons, List.length_cons]; omega
   · rw [if_neg hk, List.length_cons, List.length_cons]; omega
theorem RelO.some_of {v : V} {o : Option Value} (r : RelO (some v) o) : ∃ u, o = some u ∧ RelV v u := by
 cases o with
 | none => exact (show False from r).elim
 | some u => exact ⟨u, rfl, r⟩
theorem RelO.none_of {o : Option Value} (r : RelO none o) : o = none := by
 cases o with
 | none => rfl
 | some u => exact (show False from r).elim
theorem handed_of {v : V} {u : Value} (r : RelV v u) : W.handedIn u = true := by
 cases v with
 | non => cases (show u = Value.none from r); rfl
 | bl b => cases (show u = Value.bool b from r); rfl
 | int i => obtain ⟨t, e⟩ := (show ∃ t, u = Value.int i t from r); cases e; rfl
 | str x => obtain ⟨t, e⟩ := (show ∃ t, u = Value.str x t from r); cases e; rfl
 | byt b => obtain ⟨t, e⟩ := (show ∃ t, u = Value.bytes b t from r); cases e; rfl
 | flt b => obtain ⟨t, e⟩ := (show ∃ t, u = Value.float b t from r); cases e; rfl
 | ref a => cases (show u = Value.ref a from r); rfl
 | ty n => cases (show u = Value.type n from r); rfl
section
variable {P : Program} {w : World} {H H' : Hp} {h h' : Heap} {a C dx : Addr} {fs fs' : List (Str × V)}
theorem Sf (hok : HOk P w H h) (e : H a = some (.ins C dx fs)) : ∃ mA, ObjM h a dx C mA ∧ (∀ f, RelO (fs.lookup f) (mA f)) ∧ PySem.Within mA (fs.map (·.1)) ∧ fs.length ≤ 1000 ∧ H dx = some (.own a) := by
 obtain ⟨d, z, ne, ob, mA, n, r, q⟩ := (show ObjOk P w H h a (.ins C dx fs) from hok a _ e)
 exact ⟨mA, ⟨ob, n, ne⟩, r, q, z, d⟩
end
structure Cls (K : W.Frag) (C : Addr) : Prop where
 pg : W.plainGet K C Str.empty = true
 hd : W.hasDictIn K C = true
 po : W.plainOver K C = true
 sa : W.findIn K (.ref C) "__setattr__" = some (some (.builtin "object.__setattr__"))
theorem Cls.get {K : W.Frag} {C : Addr} (c : Cls K C) (f : Str) : W.plainGet K C f = true := c.pg
def NoAttr (K : W.Frag) (C : Addr) (f : Str) : Prop := W.findIn K (.ref C) f = some none
theorem NoAttr.taker {K : W.Frag} {C : Addr} {f : Str} (n : NoAttr K C f) : W.takerIn K C f = some none := by
 unfold W.takerIn
 rw [show W.findIn K (.ref C) f = some none from n]
 rfl
structure Meth (K : W.Frag) (C : Addr) (m : Str) (f : Addr) : Prop where
 at_ : W.findIn K (.ref C) m = some (some (.ref f))
 fn : W.isFn K (.ref f) = true
 kp : W.keepIn K (.ref f) = true
section
variable {X : Cx} {pins : List (Addr × Obj)} {σ : St} {H : Hp} {s : Shared} {a C dx : Addr} {fs : List (Str × V)} {f : Str} {v : V} {A : Around} {E : Value → Shared → Prop}
theorem getattr_ok {b : Bool} {Q : Value → Shared → Prop} (I : Inv X pins σ H s) (e : H a = some (.ins C dx fs)) (c : Cls X.K C) (n : NoAttr X.K C f) (l : fs.lookup f = some v)
   (h : ∀ u s', Inv X pins σ H s' → RelV v u → Q u s') : wpAny (model X.prog X.w) A (getAttr (.ref a) f b) Q E s := by
 obtain ⟨mA, O, r, _, _, _⟩ := Sf I.hok e
 obtain ⟨u, hu, ru⟩ := RelO.some_of (v := v) (o := mA f) (by rw [← l]; exact r f)
 exact get_map I.kIn O (c.get f) c.hd n hu (handed_of ru) (h u _ (I.tok _) ru)
theorem UW {m : Str} {g : Addr} {pl : Sem Bool} {Q : Value × List Value → Shared → Prop} (I : Inv X pins σ H s) (e : H a = some (.ins C dx fs)) (c : Cls X.K C) (k : Meth X.K C m g) (l : fs.lookup m = none)
   (h : Q (.ref g, [.ref a]) s) : wpAny (model X.prog X.w) A (getMethod (.ref a) m pl) Q E s := by
 obtain ⟨mA, O, r, _, _, _⟩ := Sf I.hok e
 have hn : mA m = none := RelO.none_of (by rw [← l]; exact r m)
 exact get_meth I.kIn O (c.get m) k.at_ k.fn hn h
theorem setattr_ok {y : V} {u : Value} {Q : Unit → Shared → Prop} (I : Inv X pins σ H s) (e : H a = some (.ins C dx fs)) (c : Cls X.K C) (n : NoAttr X.K C f) (hl : fs.length < 1000) (ry : RelV y u)
   (h : ∀ s', Inv X pins σ (upd H a (.ins C dx (putF f y fs))) s' → Q () s') : wpAny (model X.prog X.w) A (setAttr (.ref a) f u) Q E s := by
 obtain ⟨mA, O, r, wi, _, ho⟩ := Sf I.hok e
 have hz : (fs.map (·.1)).length ≤ sizeLine := by rw [List.length_map, sizeLine_eq]; omega
 refine set_map I.kIn O c.sa c.po n.taker c.hd wi hz fun h' O' sb => h _ ?_
 have hd : ∃ o, h'.get? dx = some o := let ⟨o, _, _, e', _⟩ := O'.ns; ⟨o, e'⟩
 refine I.write (x := a) (e := dx) (by rw [e]; exact True.intro) (.inr ho) (fun b q hb z => (sb.2 b hb).trans z) hd ?_
 refine ⟨by rw [Zc O.ne]; exact ho, ?_, O.ne, O'.obj, _, O'.ns, fun g => ?_, fun g hg => ?_⟩
 · have := TN f y fs; omega
 · show RelO ((putF f y fs).lookup g) (if g = f then some u else mA g)
   rw [TM]
   by_cases q : g = f
   · rw [if_pos q, if_pos q]; exact ry
   · rw [if_neg q, if_neg q]; exact r g
 · by_cases q : g = f
   · rw [q]; exact (TH f y fs).1
   · refine (TH f y fs).2 g (wi g fun z => hg ?_)
     show (if g = f then some u else mA g) = none
     rw [if_neg q]; exact z
theorem Inv.made (I : Inv X pins σ H s) : Inv X pins σ (upd (upd H s.heap.objs.size (.own (s.heap.objs.size + 1))) (s.heap.objs.size + 1) (.ins C s.heap.objs.size []))
   { s with heap := (s.heap.push W.emptyDict).push (W.instObj C s.heap.objs.size) } := by
 have e1 : (s.heap.push W.emptyDict).get? s.heap.objs.size = some W.emptyDict := Heap.get?_push_size s.heap rfl
 have e2 : ((s.heap.push W.emptyDict).push (W.instObj C s.heap.objs.size)).get? (s.heap.objs.size + 1) = some (W.instObj C s.heap.objs.size) := by
   have := Heap.get?_push_size (s.heap.push W.emptyDict) (o := W.instObj C s.heap.objs.size) rfl
   rwa [Heap.size_push] at this
 have e3 : (s.heap.push W.emptyDict).Ns s.heap.objs.size (fun _ => none) := ⟨W.emptyDict, #[], _, e1, rfl, (fun e he => absurd he (by simp)), fun _ => rfl⟩
 have I1 := I.laid (a := s.heap.objs.size) (o := .own (s.heap.objs.size + 1)) (h' := s.heap.push W.emptyDict) (t' := s.toks) (fun b u q => Heap.get?_push_of_some _ q) (Nat.le_refl _) ⟨_, e1⟩
 refine I1.laid (a := s.heap.objs.size + 1) (o := .ins C s.heap.objs.size []) (t' := s.toks) (fun b u q => Heap.get?_push_of_some _ q) (Nat.le_of_eq (Heap.size_push _ _)) ?_
 have ne : s.heap.objs.size ≠ s.heap.objs.size + 1 := Nat.ne_of_lt (Nat.lt_succ_self _)
 refine ⟨by rw [Zc ne, Zb], Nat.zero_le _, ne, e2, fun _ => none, (Heap.Ns1.of_empty e3).at fun o q => Heap.get?_push_of_some _ q, fun _ => True.intro, fun y hy => absurd rfl hy⟩
theorem attr_of {prog : Program} {w : World} {env : Env} {e : Expr} {f : Str} {pos : Pos} {s : Shared} {Q : Value → Shared → Prop} (hb : attributeBase e f env (eval e env) = eval e env)
   (h : wpAny (model prog w) A (eval e env) (fun o s₁ => wpAny (model prog w) A (getAttr o f true) Q E s₁) E s) : wpAny (model prog w) A (eval (.Attribute e f pos) env) Q E s :=
 Attribute_any_ h (by rw [arm_eval_Attribute, hb])
end
def tFld (K : W.Frag) (ta : TE) (f : Str) : TE := fun σ H Q => ta σ H fun x H1 => ∃ a C dx fs v, x = .ref a ∧ H1 a = some (.ins C dx fs) ∧ Cls K C ∧ NoAttr K C f ∧ fs.lookup f = some v ∧ Q v H1
def sFld (K : W.Frag) (ta tv : TE) (f : Str) : TS := fun D σ H => tv σ H fun y H1 => ta σ H1 fun x H2 => ∃ a C dx fs, x = .ref a ∧ H2 a = some (.ins C dx fs) ∧ Cls K C ∧ NoAttr K C f ∧ fs.length < 1000 ∧
 D.nx σ (upd H2 a (.ins C dx (putF f y fs)))
section
variable {X : Cx} {o e value : Expr} {f : Str} {pos pos' tpos : Pos} {ta tv : TE}
theorem Zu (he : PE X e ta) (hb : attributeBase e f X.env (eval e X.env) = eval e X.env) : PE X (.Attribute e f pos) (tFld X.K ta f) := by
 intro pins s σ H Q I h
 refine attr_of hb (thn (he pins s σ H _ I h) fun u s1 ⟨x, H1, I1, rx, a, C, dx, fs, v, ex, ea, c, n, l, q⟩ => ?_)
 subst ex
 obtain rfl : u = Value.ref a := rx
 exact getattr_ok I1 ea c n l fun u' s2 I2 ru => ⟨v, H1, I2, ru, q⟩
theorem YS (ha : PE X o ta) (hv : PE X value tv) (hs : swapsWith value (some (.Attribute o f pos')) pos.line X.env = pure false) : PS X (.Assign [.Attribute o f pos'] value pos) (sFld X.K ta tv f) := by
 intro pins s σ H D I h
 refine plainObj_wpAny_Assign_Attribute (thn (hv pins s σ H _ I h) fun u s1 ⟨y, H1, I1, ry, q⟩ => thn (ha pins s1 σ H1 _ I1 q) fun ov s2 ⟨x, H2, I2, rx, a, C, dx, fs, ex, ea, c, n, l, q2⟩ => ?_) hs
 subst ex
 obtain rfl : ov = Value.ref a := rx
 exact setattr_ok I2 ea c n l ry fun s3 I3 => ⟨σ, _, I3, q2⟩
end
section
variable {X : Cx} {pins : List (Addr × Obj)} {σ : St} {H : Hp} {s : Shared} {A : Around} {E : Value → Shared → Prop} {Q : Value → Shared → Prop} {c : Value} {b : Bool}
inductive TyOf (K : W.Frag) (H : Hp) : V → Value → Prop where
 | non : TyOf K H .non (.type "NoneType")
 | bl (x : Bool) : TyOf K H (.bl x) (.type "bool")
 | int (i : Int) : TyOf K H (.int i) (.type "int")
 | str (x : Str) : TyOf K H (.str x) (.type "str")
 | flt (x : UInt64) : TyOf K H (.flt x) (.type "float")
 | lst {a : Addr} {xs : List V} (e : H a = some (.lst xs)) : TyOf K H (.ref a) (.type "list")
 | frz {a : Addr} {o : Obj} {xs : List V} (e : H a = some (.frz o (.lst xs))) : TyOf K H (.ref a) (.type "list")
 | tup {a : Addr} {xs : List V} (e : H a = some (.tup xs)) : TyOf K H (.ref a) (.type "tuple")
 | dK {a : Addr} {kvs : List (Key × V)} (e : H a = some (.dK kvs)) : TyOf K H (.ref a) (.type "dict")
 | dT {a : Addr} {kvs : List (List Key × V)} (e : H a = some (.dT kvs)) : TyOf K H (.ref a) (.type "dict")
 | ins {a C dx : Addr} {fs : List (Str × V)} (e : H a = some (.ins C dx fs)) (cl : Cls K C) (ha : W.findIn K (.ref C) "__class__" = some (some (.builtin "object.__class__")))
     (hn : W.specialIn K (.builtin "object.__class__") "__get__" = some (some (.builtin "getset_descriptor.__get__"))) (htk : W.takesIn K (.builtin "object.__class__") = some true)
     (hm : W.mroIn K C (.type "object") = some true) : TyOf K H (.ref a) (.ref C)
theorem isinst_ok {x : V} {u t : Value} (I : Inv X pins σ H s) (rx : RelV x u) (ty : TyOf X.K H x t) (e : W.kitOne X.K t c = some b) (h : ∀ tk, Q (.bool b) { s with toks := tk }) :
   wpAny (model X.prog X.w) A (call (.builtin "isinstance") [u, c]) Q E s := by
 cases ty with
 | non => cases (show u = Value.none from rx); exact W.kia_one W.kitx_none I.kIn True.intro e (fun z => nomatch z) h
 | bl y => cases (show u = Value.bool y from rx); exact W.kia_one W.kitx_bool I.kIn True.intro e (fun z => nomatch z) h
 | int i => obtain ⟨t, q⟩ := (show ∃ t, u = Value.int i t from rx); cases q; exact W.kia_one W.kitx_int I.kIn True.intro e (fun z => nomatch z) h
 | str y => obtain ⟨t, q⟩ := (show ∃ t, u = Value.str y t from rx); cases q; exact W.kia_one W.kitx_str I.kIn True.intro e (fun z => nomatch z) h
 | flt y => obtain ⟨t, q⟩ := (show ∃ t, u = Value.float y t from rx); cases q; exact W.kia_one W.kitx_float I.kIn True.intro e (fun z => nomatch z) h
 | @lst a xs ea =>
   cases (show u = Value.ref a from rx)
   obtain ⟨_, _, n, _, h1⟩ := (show ObjOk X.prog X.w H s.heap a (.lst xs) from I.hok a _ ea)
   exact W.kia_one W.kitx_list I.kIn ⟨_, h1, rfl⟩ e (fun z => nomatch z) h
 | @frz a ob xs ea =>
   cases (show u = Value.ref a from rx)
   obtain ⟨_, _, _, n, _, h1⟩ := (show ObjOk X.prog X.w H s.heap a (.frz ob (.lst xs)) from I.hok a _ ea)
   exact W.kia_one W.kitx_list I.kIn ⟨_, h1, rfl⟩ e (fun z => nomatch z) h
 | @tup a xs ea =>
   cases (show u = Value.ref a from rx)
   obtain ⟨_, _, _, p⟩ := (show ObjOk X.prog X.w H s.heap a (.tup xs) from I.hok a _ ea)
   obtain ⟨o, h1, h2, _⟩ := p
   exact W.kia_one W.kitx_tuple I.kIn ⟨o, h1, h2⟩ e (fun z => nomatch z) h
 | @dK a kvs ea =>
   cases (show u = Value.ref a from rx)
   obtain ⟨_, _, vs, _, p⟩ := (show ObjOk X.prog X.w H s.heap a (.dK kvs) from I.hok a _ ea)
   obtain ⟨o, es, ep, h1, h2, _⟩ := p
   exact W.kia_one W.kitx_dict I.kIn ⟨o, h1, h2.1⟩ e (fun z => nomatch z) h
 | @dT a kvs ea =>
   cases (show u = Value.ref a from rx)
   obtain ⟨_, _, xs, _, o, es, ep, h1, h2, _⟩ := (show ObjOk X.prog X.w H s.heap a (.dT kvs) from I.hok a _ ea)
   exact W.kia_one W.kitx_dict I.kIn ⟨o, h1, h2.1⟩ e (fun z => nomatch z) h
 | @ins a C dx fs ea cl ha hn htk hm =>
   cases (show u = Value.ref a from rx)
   obtain ⟨mA, O, _⟩ := Sf I.hok ea
   obtain ⟨od, J, _⟩ := O.look
   exact W.kia_one (W.kitx_own (cl.get _) cl.hd ha hn htk hm) I.kIn J e (fun z => nomatch z) h
end
end L2
namespace L2
open PySem PySem.Spec PyProof.Rows
structure Room (k : Nat) (A : Around) : Prop where
 hd : A.handled = none
 dp : A.depth + 3 * k + 5 < recursionLimit
 un : A.units + 16 * k + 200 < cLine
theorem Room.mono {j k : Nat} {A : Around} (r : Room k A) (h : j ≤ k) : Room j A := ⟨r.hd, by have := r.dp; omega, by have := r.un; omega⟩
theorem Room.deeper {k : Nat} {A : Around} (r : Room (k + 1) A) (env : Env) : Room k (A.deeper env) :=
 ⟨r.hd, by have := r.dp; show A.depth + 1 + 3 * k + 5 < _; omega, by have := r.un; show A.units + 3 + 16 * k + 200 < _; omega⟩
theorem make_depth {A : Around} {C : Addr} {us : List Value} {kw : List (Str × Value)} : (A.under (.builtin "type.__call__" ⟨.ref C :: us, kw⟩)).depth = A.depth + 1 := by
 first | rfl | simp [Around.under, Code.weight, Code.isCreation, Code.isGuard, Code.isCaller, Code.frames, Code.isFrame, guardIds]
theorem make_units {A : Around} {C : Addr} {us : List Value} {kw : List (Str × Value)} : (A.under (.builtin "type.__call__" ⟨.ref C :: us, kw⟩)).units = A.units + 1 := by
 first | rfl | simp [Around.under, Code.cUnits, Code.frames, Code.isFrame]
theorem Room.make {k : Nat} {A : Around} (r : Room (k + 1) A) (C : Addr) (us : List Value) (kw : List (Str × Value)) : Room k (A.under (.builtin "type.__call__" ⟨.ref C :: us, kw⟩)) :=
 ⟨r.hd, by have := r.dp; rw [make_depth]; omega, by have := r.un; rw [make_units]; omega⟩
theorem Room.depth {k : Nat} {A : Around} (r : Room k A) : A.depth < recursionLimit := by have := r.dp; omega
theorem Room.units {k : Nat} {A : Around} (r : Room k A) : A.units + 64 < cLine := by have := r.un; omega
def tNil : TA := fun _ H Q => Q [] H
def Rt (ta : TE) (tr : TA) : TA := fun σ H Q => ta σ H fun x H1 => tr σ H1 fun xs H2 => Q (x :: xs) H2
section
variable {X : Cx} {e : Expr} {es : List Expr} {te : TE} {t : TA} {pos : Pos}
theorem Ze : PA X [] tNil := fun _ _ _ _ H Q I h => Calls.spliced_nil ⟨[], H, I, .nil, h⟩
theorem Za (ha : PE X e te) (hr : PA X es t) (hs : starEach (e :: es) X.env = (false, eval e X.env) :: starEach es X.env := by rfl) : PA X (e :: es) (Rt te t) := by
 intro pos pins s σ H Q I h
 rw [hs]
 show wpAny _ _ (spliced ((false, eval e X.env) :: backTo pos (starEach es X.env))) _ _ s
 refine Calls.spliced_cons (thn (ha pins s σ H _ I h) fun u s1 ⟨x, H1, I1, r1, q1⟩ => ?_)
 exact thn (hr pos pins s1 σ H1 _ I1 q1) fun us s2 ⟨xs, H2, I2, r2, q2⟩ => ⟨x :: xs, H2, I2, .cons r1 r2, q2⟩
def tTup (t : TA) : TE := fun σ H Q => t σ H fun xs H1 => xs.length ≤ sizeLine ∧ ∀ p, H1 p = none → Q (.ref p) (upd H1 p (.tup xs))
def tLst (t : TA) : TE := fun σ H Q => t σ H fun xs H1 => xs.length ≤ sizeLine ∧ ∀ p, H1 p = none → Q (.ref p) (upd H1 p (.lst xs))
theorem Yq {x1} (h : PA X es t) : PE X (.Tuple es x1 pos) (tTup t) := by
 intro pins s σ H Q I hq
 refine wpAny_Tuple_spliced (thn (h pos pins s σ H _ I hq) fun us s1 ⟨xs, H1, I1, r, z, q⟩ => ⟨by rw [← r.length]; exact z, ?_⟩)
 have hf : H1 s1.heap.objs.size = none := I1.hok.fresh (Nat.le_refl _)
 refine ⟨.ref s1.heap.objs.size, upd H1 s1.heap.objs.size (.tup xs), I1.laid (t' := s1.toks) (fun b u e => Heap.get?_push_of_some _ e) (Nat.le_refl _) ?_, rfl, q _ hf⟩
 exact ⟨z, us, r, ⟨_, Heap.get?_push_size _ rfl, rfl, _, rfl⟩⟩
theorem Yr (h : PA X es t) : PE X (.List es pos) (tLst t) := by
 intro pins s σ H Q I hq
 refine wpAny_List_spliced (thn (h pos pins s σ H _ I hq) fun us s1 ⟨xs, H1, I1, r, z, q⟩ => ⟨by rw [← r.length]; exact z, ?_⟩)
 have hf : H1 s1.heap.objs.size = none := I1.hok.fresh (Nat.le_refl _)
 refine ⟨.ref s1.heap.objs.size, upd H1 s1.heap.objs.size (.lst xs), I1.laid (t' := s1.toks) (fun b u e => Heap.get?_push_of_some _ e) (Nat.le_refl _) ?_, rfl, q _ hf⟩
 exact ⟨z, us, 0, r, Heap.get?_push_size _ rfl⟩
end
abbrev Sp := List V → Hp → VK → XK → Prop
abbrev CXT := List Env → Hp → Shared → XK → Value → Shared → Prop
structure Env0 (P : Program) (w : World) (K : W.Frag) (mg : Str → Option Value) (base : Heap) (A : Around) (outer : List Env) (s : Shared) (H : Hp) : Prop where
 frames : A.frames = some outer
 mod : Mod K mg base
 bs : ∀ b o, base.get? b = some o → s.heap.get? b = some o ∧ H b = none
 bsz : base.objs.size ≤ s.heap.objs.size
 funs : s.heap.FunFrames base outer
 frf : ∀ b ∈ frs outer, H b = none
 hok : HOk P w H s.heap
 bare : AllBare s.gens
def CE (outer : List Env) (P : Program) (w : World) (H : Hp) (s : Shared) (Q : VK) (u : Value) (s' : Shared) : Prop :=
 ∃ v H', s'.os = s.os ∧ AllBare s'.gens ∧ Un (frs outer) [] H H' s.heap s'.heap ∧ HOk P w H' s'.heap ∧ RelV v u ∧ Q v H'
def CR (CX : CXT) (outer : List Env) (P : Program) (w : World) (H : Hp) (s : Shared) (Q : VK) (E : XK) (r : Result) (s' : Shared) : Prop :=
 match r with
 | .ok (.ret u) => CE outer P w H s Q u s'
 | .ok _ => False
 | .error e => CX outer H s E e s'
structure FnOk (P : Program) (w : World) (K : W.Frag) (mg : Str → Option Value) (base : Heap) (CX : CXT) (k : Nat) (f : Addr) (fd : FuncData) (ps : List Str) (sp : Sp) : Prop where
 len : ∀ vs H Q E, sp vs H Q E → vs.length = ps.length
 run : ∀ (A : Around) (outer : List Env) (s : Shared) (H : Hp) (args : Args) (us : List Value) (vs : List V) (Q : VK) (E : XK), Room k A → Env0 P w K mg base A outer s H → BindsTo s fd args (ps.zip us) → Vals vs us → sp vs H Q E →
   codeAny (model P w) A (.call (.ref f) args) (CR CX outer P w H s Q E) s
theorem FnOk.mono {P : Program} {w : World} {K : W.Frag} {mg : Str → Option Value} {base : Heap} {CX : CXT} {j k : Nat} {f : Addr} {fd : FuncData} {ps : List Str} {sp : Sp} (F : FnOk P w K mg base CX j f fd ps sp) (h : j ≤ k) :
   FnOk P w K mg base CX k f fd ps sp := ⟨F.len, fun A outer s H args us vs Q E hr => F.run A outer s H args us vs Q E (hr.mono h)⟩
theorem FnOk.imp {P : Program} {w : World} {K : W.Frag} {mg : Str → Option Value} {base : Heap} {CX : CXT} {k : Nat} {f : Addr} {fd : FuncData} {ps : List Str} {sp sp' : Sp} (F : FnOk P w K mg base CX k f fd ps sp)
   (h : ∀ vs H Q E, sp' vs H Q E → sp vs H Q E) : FnOk P w K mg base CX k f fd ps sp' :=
 ⟨fun vs H Q E q => F.len vs H Q E (h _ _ _ _ q), fun A outer s H args us vs Q E hr he hb hv hs => F.run A outer s H args us vs Q E hr he hb hv (h _ _ _ _ hs)⟩
theorem Env0.make {P : Program} {w : World} {K : W.Frag} {mg : Str → Option Value} {base : Heap} {A : Around} {outer : List Env} {s : Shared} {H : Hp} (e : Env0 P w K mg base A outer s H) (C : Addr) (us : List Value) (kw : List (Str × Value)) :
   Env0 P w K mg base (A.under (.builtin "type.__call__" ⟨.ref C :: us, kw⟩)) outer s H := ⟨by first | exact e.frames | (simpa [Around.under, Code.envs, Code.isFrame, pushEnvs] using e.frames), e.mod, e.bs, e.bsz, e.funs, e.frf, e.hok, e.bare⟩
section
variable {X : Cx} {pins : List (Addr × Obj)} {σ : St} {H : Hp} {s s' : Shared}
theorem Inv.env0 (I : Inv X pins σ H s) : Env0 X.prog X.w X.K X.mg X.base X.A X.stack s H :=
 ⟨I.ok.frames, I.ok.mod, I.bs, Nat.le_trans I.ok.bsz I.sz, I.stack, I.stkFree, I.hok, I.bare⟩
theorem Inv.after {Q : VK} {u : Value} (I : Inv X pins σ H s) (h : CE X.stack X.prog X.w H s Q u s') : EP X pins σ Q u s' := by
 obtain ⟨v, H', os, bare, un, hok, r, q⟩ := h
 obtain ⟨hh, g, d, t, os'⟩ := s'
 obtain rfl : os' = s.os := os
 exact ⟨v, H', I.call (h' := hh) (g' := g) (d' := d) (t' := t) (ch := []) un hok bare (fun b z => absurd z (by simp)), r, q⟩
end
def tCall (sp : Sp) (dvs : List V) (E : XK) (t : TA) : TE := fun σ H Q => t σ H fun vs H1 => sp (vs ++ dvs) H1 Q E
def tMeth (C : Addr) (m : Str) (sp : Sp) (dvs : List V) (E : XK) (ta : TE) (t : TA) : TE := fun σ H Q => ta σ H fun x H1 => ∃ a dx fs, x = .ref a ∧ H1 a = some (.ins C dx fs) ∧ fs.lookup m = none ∧
 t σ H1 fun vs H2 => sp (x :: (vs ++ dvs)) H2 Q E
def tMake (C : Addr) (sp : Sp) (dvs : List V) (E : XK) (t : TA) : TE := fun σ H Q => t σ H fun vs H1 => ∀ x dx, H1 x = none → H1 dx = none → dx ≠ x →
 sp (.ref x :: (vs ++ dvs)) (upd (upd H1 dx (.own x)) x (.ins C dx [])) (fun v H2 => v = .non ∧ Q (.ref x) H2) E
def Binds (K : W.Frag) (fd : FuncData) (ps : List Str) (ds : List Value) : Prop :=
 ∀ (s : Shared) (us : List Value), K.In s.heap → (us ++ ds).length = ps.length → BindsTo s fd ⟨us, []⟩ (ps.zip (us ++ ds))
theorem Binds.all {K : W.Frag} {fd : FuncData} {ps : List Str} (h : ∀ us : List Value, us.length = ps.length → bindArgs fd ⟨us, []⟩ = pure (ps.zip us)) : Binds K fd ps [] := fun s us _ hl => by
 rw [List.append_nil] at hl ⊢
 exact .of_eq (h us hl)
def Uz (CX : CXT) (X : Cx) (E : XK) : Prop := ∀ (pins : List (Addr × Obj)) (σ : St) (H : Hp) (s : Shared) (e : Value) (s' : Shared), Inv X pins σ H s → CX X.stack H s E e s' → X.xe e s'
section
variable {X : Cx} {CX : CXT} {k : Nat} {f C : Addr} {fd : FuncData} {ps : List Str} {sp : Sp} {dvs : List V} {ds : List Value} {E : XK} {x m : Str} {p pos apos : Pos} {e o : Expr} {es : List Expr} {ta : TE} {t : TA}
theorem run_fn {pins : List (Addr × Obj)} {σ : St} {H : Hp} {s : Shared} {Q : VK} {us : List Value} {vs : List V} (F : FnOk X.prog X.w X.K X.mg X.base CX k f fd ps sp) (hr : Room k X.A) (hb : Binds X.K fd ps ds) (hd : Vals dvs ds) (hx : Uz CX X E)
   (I : Inv X pins σ H s) (r : Vals vs us) (h : sp (vs ++ dvs) H Q E) : wpAny (model X.prog X.w) X.A (call (.ref f) us) (EP X pins σ Q) X.xe s := by
 have r2 : Vals (vs ++ dvs) (us ++ ds) := r.append hd
 have hl : (us ++ ds).length = ps.length := by rw [← r2.length]; exact F.len _ _ _ _ h
 refine wpAny_call (codeAny_mono (F.run X.A X.stack s H ⟨us, []⟩ (us ++ ds) (vs ++ dvs) Q E hr I.env0 (hb s us I.kIn hl) r2 h) fun r s' hq => ?_)
 cases r with
 | error e => exact hx pins σ H s e s' I hq
 | ok fl =>
   cases fl with
   | ret u => exact I.after hq
   | next => exact False.elim hq
   | brk => exact False.elim hq
   | cont => exact False.elim hq
theorem ZA (F : FnOk X.prog X.w X.K X.mg X.base CX k f fd ps sp) (hr : Room k X.A) (hg : Gl X x) (hm : X.mg x = some (.ref f)) (hk : W.keepIn X.K (.ref f) = true) (hb : Binds X.K fd ps ds) (hd : Vals dvs ds) (hx : Uz CX X E)
   (ha : PA X (e :: es) t) (hdb : (x == ("__debug__" : Str)) = false := by decide) (he : starEach (e :: es) X.env = (false, eval e X.env) :: starEach es X.env := by rfl) (hpl : (backTo pos (starEach es X.env)).any (·.1) = false := by rfl) :
   PE X (.Call (.Name x p) (e :: es) [] pos) (tCall sp dvs E t) := by
 intro pins s σ H Q I h
 refine wpAny_Call_Name_kw (UG I hg hm ?_ hdb)
 refine W.callWith_K (h₀ := X.base) I.ok.mod.kin hk (thn (ha pos pins s σ H _ I h) fun us s1 ⟨vs, H1, I1, r, q⟩ => ⟨I1.kIn, ?_⟩) he hpl
 exact run_fn F hr hb hd hx I1 r q
theorem ZU {pl : Sem Bool} (he : PE X o ta) (c : Cls X.K C) (hm : Meth X.K C m f) (F : FnOk X.prog X.w X.K X.mg X.base CX k f fd ps sp) (hr : Room k X.A) (hb : Binds X.K fd ps ds) (hd : Vals dvs ds) (hx : Uz CX X E) (ha : PA X (e :: es) t)
   (hst : starEach (e :: es) X.env = (false, eval e X.env) :: starEach es X.env := by rfl) (hpl : (backTo pos (starEach es X.env)).any (·.1) = false := by rfl)
   (ht : eval (.Call (.Attribute o m apos) (e :: es) [] pos) X.env = (do
     let ov ← eval o X.env
     standAt apos.atName
     let (f, first) ← holding [ov] (getMethod ov m pl)
     callWith pos f first (backTo pos (starEach (e :: es) X.env)) (backToKw pos (keywordEach [] X.env))) := by rfl) :
   PE X (.Call (.Attribute o m apos) (e :: es) [] pos) (tMeth C m sp dvs E ta t) := by
 intro pins s σ H Q I h
 refine W.methodCall_KW (pl := pl) (thn (he pins s σ H _ I h) fun u s1 ⟨x, H1, I1, rx, a, dx, fs, ex, ea, l, q⟩ => ?_) ht
 subst ex
 obtain rfl : u = Value.ref a := rx
 refine UW I1 ea c hm l ?_
 refine W.callWith_K (first := [.ref a]) (h₀ := X.base) I.ok.mod.kin hm.kp (thn (ha pos pins s1 σ H1 _ I1 q) fun us s2 ⟨vs, H2, I2, r, q2⟩ => ⟨I2.kIn, ?_⟩) hst hpl
 exact run_fn (us := .ref a :: us) (vs := .ref a :: vs) F hr hb hd hx I2 (.cons rfl r) q2
theorem Uk {pl : Sem Bool} (he : PE X o ta) (c : Cls X.K C) (hm : Meth X.K C m f) (F : FnOk X.prog X.w X.K X.mg X.base CX k f fd ps sp) (hr : Room k X.A) (hb : Binds X.K fd ps ds) (hd : Vals dvs ds) (hx : Uz CX X E)
   (ht : eval (.Call (.Attribute o m apos) [] [] pos) X.env = (do
     let ov ← eval o X.env
     standAt apos.atName
     let (f, first) ← holding [ov] (getMethod ov m pl)
     callWith pos f first (backTo pos (starEach [] X.env)) (backToKw pos (keywordEach [] X.env))) := by rfl) :
   PE X (.Call (.Attribute o m apos) [] [] pos) (tMeth C m sp dvs E ta tNil) := by
 intro pins s σ H Q I h
 refine W.methodCall_KW (pl := pl) (thn (he pins s σ H _ I h) fun u s1 ⟨x, H1, I1, rx, a, dx, fs, ex, ea, l, q⟩ => ?_) ht
 subst ex
 obtain rfl : u = Value.ref a := rx
 refine UW I1 ea c hm l ?_
 exact W.callWith_K0 (first := [.ref a]) I1.kIn hm.kp (run_fn (us := [.ref a]) (vs := [.ref a]) F hr hb hd hx I1 (.cons rfl .nil) q)
structure Mk (K : W.Frag) (C f : Addr) : Prop where
 makes : W.makesIn K C = true
 init : W.findIn K (.ref C) "__init__" = some (some (.ref f))
 fn : W.isFn K (.ref f) = true
 kp : W.keepIn K (.ref C) = true
theorem run_make {pins : List (Addr × Obj)} {σ : St} {H : Hp} {s : Shared} {Q : VK} {us : List Value} {vs : List V} (M : Mk X.K C f) (F : FnOk X.prog X.w X.K X.mg X.base CX k f fd ps sp) (hr : Room (k + 1) X.A) (hb : Binds X.K fd ps ds) (hd : Vals dvs ds)
   (hx : Uz CX X E) (I : Inv X pins σ H s) (r : Vals vs us)
   (h : ∀ x dx, H x = none → H dx = none → dx ≠ x → sp (.ref x :: (vs ++ dvs)) (upd (upd H dx (.own x)) x (.ins C dx [])) (fun v H2 => v = .non ∧ Q (.ref x) H2) E) :
   wpAny (model X.prog X.w) X.A (call (.ref C) us) (EP X pins σ Q) X.xe s := by
 have hq := h (s.heap.objs.size + 1) s.heap.objs.size (I.hok.fresh (Nat.le_succ _)) (I.hok.fresh (Nat.le_refl _)) (Nat.ne_of_lt (Nat.lt_succ_self _))
 have I2 := Inv.made (C := C) I
 have r2 : Vals (V.ref (s.heap.objs.size + 1) :: (vs ++ dvs)) (Value.ref (s.heap.objs.size + 1) :: (us ++ ds)) := .cons rfl (r.append hd)
 have hl : (Value.ref (s.heap.objs.size + 1) :: us ++ ds).length = ps.length := by
   have e := r2.length
   rw [F.len _ _ _ _ hq] at e
   exact e.symm
 refine wpAny_call (make_map (f := f) I.kIn M.makes M.init (beq_iff_eq.mp M.fn) (codeAny_mono (F.run _ X.stack _ _ ⟨Value.ref (s.heap.objs.size + 1) :: us, []⟩ (Value.ref (s.heap.objs.size + 1) :: (us ++ ds)) _ _ E (hr.make C us [])
   (I2.env0.make C us []) (hb _ (Value.ref (s.heap.objs.size + 1) :: us) I2.kIn hl) r2 hq) fun r s' hq' => ?_))
 cases r with
 | error e => exact hx pins σ _ _ e s' I2 hq'
 | ok fl =>
   cases fl with
   | ret u =>
     obtain ⟨v, H', I3, rv, ev, q3⟩ := I2.after hq'
     subst ev
     exact ⟨rv, ⟨V.ref (s.heap.objs.size + 1), H', I3, rfl, q3⟩⟩
   | next => exact False.elim hq'
   | brk => exact False.elim hq'
   | cont => exact False.elim hq'
theorem Sd (M : Mk X.K C f) (F : FnOk X.prog X.w X.K X.mg X.base CX k f fd ps sp) (hr : Room (k + 1) X.A) (hg : Gl X x) (hm : X.mg x = some (.ref C)) (hb : Binds X.K fd ps ds) (hd : Vals dvs ds) (hx : Uz CX X E)
   (ha : PA X (e :: es) t) (hdb : (x == ("__debug__" : Str)) = false := by decide) (he : starEach (e :: es) X.env = (false, eval e X.env) :: starEach es X.env := by rfl) (hpl : (backTo pos (starEach es X.env)).any (·.1) = false := by rfl) :
   PE X (.Call (.Name x p) (e :: es) [] pos) (tMake C sp dvs E t) := by
 intro pins s σ H Q I h
 refine wpAny_Call_Name_kw (UG I hg hm ?_ hdb)
 refine W.callWith_K (h₀ := X.base) I.ok.mod.kin M.kp (thn (ha pos pins s σ H _ I h) fun us s1 ⟨vs, H1, I1, r, q⟩ => ⟨I1.kIn, ?_⟩) he hpl
 exact run_make M F hr hb hd hx I1 r q
end
section
variable {X : Cx} {CX : CXT} {k : Nat} {f C : Addr} {fd : FuncData} {ps ks : List Str} {sp : Sp} {E : XK} {x m : Str} {p pos apos kpos : Pos} {e o : Expr} {es : List Expr} {kws : List Keyword} {te ta : TE} {t tk : TA} {nm : Option Str}
variable {g : List Value → List Value → List Value} {gV : List V → List V → List V}
end
structure FnScope (N P : List Str) (sc : Scope) : Prop where
 kind : sc.kind = .function
 co : sc.isCoroutine = false
 gen : sc.isGenerator = false
 nd : N.Nodup
 pre : N.take P.length = P
 par : ∀ x ∈ P, sc.names.lookup x = some .local ∨ sc.names.lookup x = some .cell
 nofree : ∀ y ∈ sc.names, y.2 ≠ .free
theorem Zw {N P : List Str} {sc : Scope} (a : sc.kind = .function := by rfl) (b : sc.isCoroutine = false := by rfl) (c : sc.isGenerator = false := by rfl) (d : N.Nodup := by decide +kernel) (e : N.take P.length = P := by rfl) (f : ∀ x ∈ P, sc.names.lookup x = some .local ∨ sc.names.lookup x = some .cell := by decide +kernel) (g : ∀ y ∈ sc.names, y.2 ≠ .free := by decide +kernel) : FnScope N P sc := ⟨a, b, c, d, e, f, g⟩
theorem RS {kindOf : Str → Option NameKind} {x : Str} : ∀ {binds : List (Str × Value)} {m : Str → Option Value}, (∀ v, (x, v) ∉ binds) → bindL kindOf binds m x = m x
 | [], _, _ => rfl
 | (n, v) :: r, m, h => by
   unfold bindL
   rw [RS fun w hw => h w (List.mem_cons_of_mem _ hw)]
   split
   · have : x ≠ n := by rintro rfl; exact h v List.mem_cons_self
     simp [this]
   · rfl
theorem RU {kindOf : Str → Option NameKind} {x : Str} : ∀ {binds : List (Str × Value)} {m : Str → Option Value}, (∀ v, (x, v) ∉ binds) → bindC kindOf binds m x = m x
 | [], _, _ => rfl
 | (n, v) :: r, m, h => by
   unfold bindC
   rw [RU fun w hw => h w (List.mem_cons_of_mem _ hw)]
   split
   · rfl
   · have : x ≠ n := by rintro rfl; exact h v List.mem_cons_self
     simp [this]
theorem RT {kindOf : Str → Option NameKind} {x : Str} {v : Value} : ∀ {P : List Str} {vs : List Value} {i : Nat} {m : Str → Option Value}, P.Nodup → P[i]? = some x → vs[i]? = some v → kindOf x = some .local →
   bindL kindOf (P.zip vs) m x = some v
 | [], _, _, _, _, h, _, _ => by simp at h
 | _ :: _, [], _, _, _, _, h, _ => by simp at h
 | p :: P, w :: vs, 0, m, nd, h1, h2, hk => by
   simp at h1 h2; subst h1; subst h2
   show bindL kindOf ((p, w) :: P.zip vs) m p = _
   unfold bindL
   rw [RS fun v hv => (List.nodup_cons.mp nd).1 (List.of_mem_zip hv).1, if_pos hk]
   simp
 | p :: P, w :: vs, i + 1, m, nd, h1, h2, hk => by
   show bindL kindOf ((p, w) :: P.zip vs) m x = _
   unfold bindL
   exact RT (i := i) (List.nodup_cons.mp nd).2 (by simpa using h1) (by simpa using h2) hk
theorem RV {kindOf : Str → Option NameKind} {x : Str} {v : Value} : ∀ {P : List Str} {vs : List Value} {i : Nat} {m : Str → Option Value}, P.Nodup → P[i]? = some x → vs[i]? = some v → kindOf x ≠ some .local →
   bindC kindOf (P.zip vs) m x = some v
 | [], _, _, _, _, h, _, _ => by simp at h
 | _ :: _, [], _, _, _, _, h, _ => by simp at h
 | p :: P, w :: vs, 0, m, nd, h1, h2, hk => by
   simp at h1 h2; subst h1; subst h2
   show bindC kindOf ((p, w) :: P.zip vs) m p = _
   unfold bindC
   rw [RU fun v hv => (List.nodup_cons.mp nd).1 (List.of_mem_zip hv).1, if_neg hk]
   simp
 | p :: P, w :: vs, i + 1, m, nd, h1, h2, hk => by
   show bindC kindOf ((p, w) :: P.zip vs) m x = _
   unfold bindC
   exact RV (i := i) (List.nodup_cons.mp nd).2 (by simpa using h1) (by simpa using h2) hk
def start (N : List Str) (vs : List V) : St := vs.map some ++ List.replicate (N.length - vs.length) none
def cxOf (CX : CXT) (P : Program) (w : World) (K : W.Frag) (mg : Str → Option Value) (base : Heap) (N : List Str) (qual : Str) (scope : Scope) (f : Addr) (cd : Value) (A : Around) (outer : List Env) (s : Shared) (H : Hp) (E : XK) : Cx where
 prog := P
 w := w
 K := K
 mg := mg
 base := base
 A := A.deeper (envOfC qual scope s.heap.objs.size f cd)
 N := N
 s₀ := s
 H₀ := H
 env := envOfC qual scope s.heap.objs.size f cd
 outer := outer
 stack := envOfC qual scope s.heap.objs.size f cd :: outer
 ex := []
 calm := true
 fn := fun _ => true
 pn := []
 xe := fun e s' => wpAny (model P w) (A.deeper (envOfC qual scope s.heap.objs.size f cd)) (leaving (envOfC qual scope s.heap.objs.size f cd) e) (fun _ s'' => CX outer H s E e s'') (fun e' s'' => CX outer H s E e' s'') s'
theorem Tj {sc : Scope} {n : Nat} {x : Str} (h : sc.names.lookup x = some .cell) : ∃ c, (cellsFrom n sc.names []).lookup x = some c := by
 have q := W.cellsFrom_some sc.names n [] (.inl h)
 exact Option.isSome_iff_exists.mp q
theorem inv_start {CX : CXT} {P : Program} {w : World} {K : W.Frag} {mg : Str → Option Value} {base : Heap} {N ps : List Str} {qual : Str} {scope : Scope} {f : Addr} {cd : Value} {A : Around} {outer : List Env} {s s1 : Shared} {H : Hp} {E : XK} {us : List Value} {vs : List V}
   (S : FnScope N ps scope) (hd : A.handled = none) (e0 : Env0 P w K mg base A outer s H) (hl : vs.length = ps.length) (r : Vals vs us)
   (x : InCallC s s.heap.objs.size (bindL (envOfC qual scope s.heap.objs.size f cd).kindOf (ps.zip us) fun _ => none) (cellsFrom (s.heap.objs.size + 1) scope.names []) (bindC (envOfC qual scope s.heap.objs.size f cd).kindOf (ps.zip us) fun _ => none) s1) :
   Inv (cxOf CX P w K mg base N qual scope f cd A outer s H E) [] (start N vs) H s1 := by
 have hpl : ps.length ≤ N.length := by have := congrArg List.length S.pre; rw [List.length_take] at this; omega
 obtain ⟨h1, tk, rfl, hk⟩ := x.done
 have noA : ∀ b : Addr, b ∉ (cxOf CX P w K mg base N qual scope f cd A outer s H E).ex := fun b z => absurd (show b ∈ ([] : List Addr) from z) (by simp)
 refine ⟨⟨e0.mod, S.kind, rfl, rfl, Nat.le_refl _, fun y z c h1 h2 => ?_, fun y hy => ?_, fun y c _ h => ?_, fun _ => hd, Around.frames_deeper e0.frames, .inr ⟨rfl, rfl⟩, fun b z => absurd z (noA b), e0.bs, e0.bsz, fun b _ _ => noA b, fun b z => absurd z (noA b), e0.funs, e0.frf⟩,
   rfl, e0.bare, Un.kept hk, ⟨_, x.toInCall.ns, fun i y v h1 h2 h3 => ?_⟩, fun y c h => ⟨_, x.cell y c h⟩, e0.hok.fresh (Nat.le_refl _), fun y c h => ?_, fun p hp => absurd (show p ∈ ([] : List (Addr × Obj)) from hp) (by simp), e0.hok.kept hk, ?_⟩
 · exact name_of_addr x.apart (PySem.mem_of_lookup h1) (PySem.mem_of_lookup h2)
 · have hy : scope.names.lookup y = some .cell ∨ scope.names.lookup y = some .free := hy
   rcases hy with hy | hy
   · exact Tj hy
   · exact absurd rfl (S.nofree _ (PySem.mem_of_lookup hy))
 · exact Nat.le_of_lt (x.above y c (PySem.mem_of_lookup h))
 · have hi : i < vs.length := by
     unfold start at h2
     by_cases hi : i < vs.length
     · exact hi
     · rw [List.getElem?_append_right (by simpa using hi)] at h2
       rw [List.getElem?_replicate] at h2
       split at h2 <;> cases h2
   have ha : vs[i]? = some v := by
     unfold start at h2
     rw [List.getElem?_append_left (by simpa using hi), List.getElem?_map] at h2
     cases e : vs[i]? with
     | none => rw [e] at h2; cases h2
     | some a => rw [e] at h2; cases h2; rfl
   obtain ⟨u, hu, rv⟩ := r.get ha
   have hp : ps[i]? = some y := by
     rw [← S.pre, List.getElem?_take_of_lt (by omega)]; exact h1
   have ndP : ps.Nodup := by rw [← S.pre]; exact S.nd.sublist (List.take_sublist _ _)
   refine ⟨u, rv, ?_⟩
   rcases S.par y (List.mem_of_getElem? hp) with k | k
   · exact .inl ⟨k, RT ndP hp hu k⟩
   · obtain ⟨c, e⟩ := Tj (n := s.heap.objs.size + 1) k
     refine .inr ⟨.inl k, c, e, ?_⟩
     have q := x.cell y c e
     rw [RV ndP hp hu (by show scope.names.lookup y ≠ _; rw [k]; decide)] at q
     exact q
 · exact e0.hok.fresh (Nat.le_of_lt (x.above y c (PySem.mem_of_lookup h)))
 · unfold start
   show _ = N.length
   rw [List.length_append, List.length_map, List.length_replicate]
   omega
theorem fn_of {CX : CXT} {P : Program} {w : World} {K : W.Frag} {mg : Str → Option Value} {base : Heap} {k : Nat} {f : Addr} {name qual : Str} {params : Arguments} {body : List Stmt} {scope : Scope} {dV kV doc pm cdv ct oc : Value} {an od : Option Addr}
   {osl : Array (Option Value)} {N ps : List Str} {sp : Sp} (lk : K.lookup f = some ⟨oc, od, .func (W.fnOf name qual params body scope dV kV doc pm an cdv ct), osl⟩) (hcd : W.codeIn K cdv qual = true) (S : FnScope N ps scope)
   (len : ∀ vs H Q E, sp vs H Q E → vs.length = ps.length)
   (hbody : ∀ (A : Around) (outer : List Env) (s : Shared) (H : Hp) (vs : List V) (Q : VK) (E : XK), Room k (A.deeper (envOfC qual scope s.heap.objs.size f cdv)) → sp vs H Q E →
     ∃ t, PSs (cxOf CX P w K mg base N qual scope f cdv A outer s H E) body t ∧ t { nx := fun _ H' => Q .non H', rt := Q } (start N vs) H) :
   FnOk P w K mg base CX (k + 1) f (W.fnOf name qual params body scope dV kV doc pm an cdv ct) ps sp := by
 refine ⟨len, fun A outer s H args us vs Q E hr e0 hb r hsp => ?_⟩
 have hl := len _ _ _ _ hsp
 have KX : K.In s.heap := e0.mod.kin.keeps fun b o e => (e0.bs b o e).1
 have lim : s.heap.NoLimit := e0.mod.nolimit.keeps fun b o e => (e0.bs b o e).1
 have hkind : ∀ y ∈ ps.zip us, scope.names.lookup y.1 = some .local ∨ (scope.names.lookup y.1 = some .cell ∧ ((cellsFrom (s.heap.objs.size + 1) scope.names []).lookup y.1).isSome = true) := fun ⟨n, v⟩ hy => by
   rcases S.par n (List.of_mem_zip hy).1 with q | q
   · exact .inl q
   · exact .inr ⟨q, W.cellsFrom_some _ _ _ (.inl q)⟩
 refine codeAny_call_function hr.depth (KX _ _ lk) rfl S.co S.gen rfl (W.codeRec_of KX hcd) (hb _ _ _ _ ?_)
 refine wpAny_newFunctionEnv_cells S.kind hkind fun env he s1 x => ?_
 subst he
 refine ⟨lim.keeps x.toInCall.keep, codeAny_func ?_⟩
 obtain ⟨t, ht, hq⟩ := hbody A outer s H vs Q E (hr.deeper _) hsp
 have I : Inv (cxOf CX P w K mg base N qual scope f cdv A outer s H E) [] (start N vs) H s1 := inv_start S hr.hd e0 hl r x
 refine wpAny_mono (ht [] s1 (start N vs) H _ I hq) (fun fl s' hs => ?_) fun e s' hs => hs
 have fin : ∀ {σ' : St} {H' : Hp} {v : V} {u : Value}, Inv (cxOf CX P w K mg base N qual scope f cdv A outer s H E) [] σ' H' s' → RelV v u → Q v H' → CE outer P w H s Q u s' :=
   fun {σ' H' v u} J rv q => ⟨v, H', J.os, J.bare, J.base, J.hok, rv, q⟩
 cases fl with
 | ret u =>
   obtain ⟨v, σ', H', J, rv, q⟩ := hs
   exact fin J rv q
 | next =>
   obtain ⟨σ', H', J, q⟩ := hs
   exact fin (v := V.non) (u := Value.none) J rfl q
 | brk =>
   obtain ⟨_, _, _, q⟩ := hs
   exact False.elim q
 | cont =>
   obtain ⟨_, _, _, q⟩ := hs
   exact False.elim q
end L2
namespace L2
open PySem PySem.Spec PyProof.Rows
section
variable {X : Cx} {x : Str} {p pos : Pos} {e : Expr} {es : List Expr} {t : TA} {id T : String} {r : List V → Hp → VK → Prop}
def tCB (r : List V → Hp → VK → Prop) (t : TA) : TE := fun σ H Q => t σ H fun vs H1 => r vs H1 Q
theorem ZL (hc : VC X (.builtin id) r) (hg : Gl X x) (hm : X.mg x = none) (hv : bootBuiltins x = some (.builtin id)) (ha : PA X (e :: es) t) (hn : x ≠ "__name__" := by decide) (hdb : (x == ("__debug__" : Str)) = false := by decide)
   (he : starEach (e :: es) X.env = (false, eval e X.env) :: starEach es X.env := by rfl) (hpl : (backTo pos (starEach es X.env)).any (·.1) = false := by rfl) : PE X (.Call (.Name x p) (e :: es) [] pos) (tCB r t) := by
 intro pins s σ H Q I h
 refine wpAny_Call_Name_kw (TD I hg hm hv ?_ hn hdb)
 exact PyProof.Rows.callWith_builtin1 (thn (ha pos pins s σ H _ I h) fun us s1 ⟨vs, H1, I1, r1, q1⟩ => hc pins s1 σ H1 vs us Q I1 r1 q1) he hpl
theorem UF (hc : VC X (.type T) r) (hg : Gl X x) (hm : X.mg x = none) (hv : bootBuiltins x = some (.type T)) (ha : PA X (e :: es) t) (hn : x ≠ "__name__" := by decide) (hdb : (x == ("__debug__" : Str)) = false := by decide)
   (he : starEach (e :: es) X.env = (false, eval e X.env) :: starEach es X.env := by rfl) (hpl : (backTo pos (starEach es X.env)).any (·.1) = false := by rfl) : PE X (.Call (.Name x p) (e :: es) [] pos) (tCB r t) := by
 intro pins s σ H Q I h
 refine wpAny_Call_Name_kw (TD I hg hm hv ?_ hn hdb)
 exact PyProof.Rows.callWith_type1 (thn (ha pos pins s σ H _ I h) fun us s1 ⟨vs, H1, I1, r1, q1⟩ => hc pins s1 σ H1 vs us Q I1 r1 q1) he hpl
end
end L2
namespace L2
open PySem PySem.Spec PyProof.Rows
section
variable {κ : Type} [DecidableEq κ]
def valV (kvs : List (κ × V)) (k : κ) : Option V := (kvs.find? fun kv => decide (kv.1 = k)).map (·.2)
def putK (kvs : List (κ × V)) (k : κ) (v : V) : List (κ × V) :=
 if (kvs.any fun kv => decide (kv.1 = k)) = true then kvs.map (fun kv => if kv.1 = k then (kv.1, v) else kv) else kvs ++ [(k, v)]
def YF (kvs : List (κ × V)) (k : κ) : List (κ × V) := kvs.filter fun kv => decide (kv.1 ≠ k)
theorem UY {p : κ × V} {r : List (κ × V)} {k : κ} (e : p.1 = k) : valV (p :: r) k = some p.2 := by simp [valV, List.find?_cons, e]
theorem UZ {p : κ × V} {r : List (κ × V)} {k : κ} (e : ¬ p.1 = k) : valV (p :: r) k = valV r k := by simp [valV, List.find?_cons, e]
theorem Sj (k : κ) : ∀ kvs : List (κ × V), (kvs.any fun kv => decide (kv.1 = k)) = (valV kvs k).isSome
 | [] => rfl
 | p :: r => by
   rw [List.any_cons]
   by_cases e : p.1 = k
   · simp only [UY e, decide_eq_true e, Bool.true_or, Option.isSome_some]
   · rw [UZ e, decide_eq_false e, Bool.false_or]; exact Sj k r
theorem Us (kvs : List (κ × V)) (k : κ) (v : V) : (putK kvs k v).length ≤ kvs.length + 1 := by
 unfold putK
 split
 · rw [List.length_map]; omega
 · rw [List.length_append, List.length_cons, List.length_nil]; omega
theorem RelO.isSome_eq {o : Option V} {u : Option Value} (r : RelO o u) : o.isSome = u.isSome := by
 cases o with
 | none => cases u with
   | none => rfl
   | some _ => exact (show False from r).elim
 | some _ => cases u with
   | none => exact (show False from r).elim
   | some _ => rfl
theorem RelO.getD {o : Option V} {u : Option Value} {d : V} {d' : Value} (r : RelO o u) (rd : RelV d d') : RelV (o.getD d) (u.getD d') := by
 cases o with
 | none => cases u with
   | none => exact rd
   | some _ => exact (show False from r).elim
 | some _ => cases u with
   | none => exact (show False from r).elim
   | some _ => exact r
theorem KV.val {kvs : List (κ × V)} {vs : List (κ × Value)} (r : KV kvs vs) (k : κ) : RelO (valV kvs k) (valueAt vs k) := by
 unfold KV at r
 induction r with
 | nil => exact True.intro
 | @cons p q ps qs h t ih =>
   obtain ⟨h1, h2⟩ := h
   by_cases e : p.1 = k
   · have e' : q.1 = k := h1.symm.trans e
     have b : valueAt (q :: qs) k = some q.2 := by simp [valueAt, List.find?_cons, e']
     rw [UY e, b]; exact h2
   · have e' : ¬ q.1 = k := fun z => e (h1.trans z)
     have b : valueAt (q :: qs) k = valueAt qs k := by simp [valueAt, List.find?_cons, e']
     rw [UZ e, b]; exact ih
theorem KV.any {kvs : List (κ × V)} {vs : List (κ × Value)} (r : KV kvs vs) (k : κ) : (kvs.any fun kv => decide (kv.1 = k)) = vs.any fun kv => decide (kv.1 = k) := by
 unfold KV at r
 induction r with
 | nil => rfl
 | cons h t ih => rw [List.any_cons, List.any_cons, ih, h.1]
theorem KV.repl {kvs : List (κ × V)} {vs : List (κ × Value)} (r : KV kvs vs) (k : κ) {y : V} {u : Value} (ry : RelV y u) :
   KV (kvs.map fun kv => if kv.1 = k then (kv.1, y) else kv) (vs.map fun kv => if kv.1 = k then (kv.1, u) else kv) := by
 unfold KV at r ⊢
 induction r with
 | nil => exact .nil
 | @cons p q ps qs h t ih =>
   rw [List.map_cons, List.map_cons]
   refine .cons ?_ ih
   obtain ⟨h1, h2⟩ := h
   by_cases e : p.1 = k
   · rw [if_pos e, if_pos (h1.symm.trans e)]; exact ⟨h1, ry⟩
   · rw [if_neg e, if_neg (fun z => e (h1.trans z))]; exact ⟨h1, h2⟩
theorem KV.put {kvs : List (κ × V)} {vs : List (κ × Value)} (r : KV kvs vs) (k : κ) {y : V} {u : Value} (ry : RelV y u) : KV (putK kvs k y) (stored vs k u) := by
 unfold putK stored
 rw [r.any k]
 by_cases e : (vs.any fun kv => decide (kv.1 = k)) = true
 · rw [if_pos e, if_pos e]; exact r.repl k ry
 · rw [if_neg e, if_neg e]; exact Paired.snoc r ⟨rfl, ry⟩
theorem KV.drop {kvs : List (κ × V)} {vs : List (κ × Value)} (r : KV kvs vs) (k : κ) : KV (YF kvs k) (without vs k) := by
 unfold KV at r ⊢
 unfold YF without
 induction r with
 | nil => exact .nil
 | @cons p q ps qs h t ih =>
   obtain ⟨h1, h2⟩ := h
   rw [List.filter_cons, List.filter_cons]
   by_cases e : p.1 = k
   · have a : ¬ decide (p.1 ≠ k) = true := by simp [e]
     have b : ¬ decide (q.1 ≠ k) = true := by simp [h1.symm.trans e]
     rw [if_neg a, if_neg b]; exact ih
   · have e' : ¬ q.1 = k := fun z => e (h1.trans z)
     have a : decide (p.1 ≠ k) = true := by simp [e]
     have b : decide (q.1 ≠ k) = true := by simp [e']
     rw [if_pos a, if_pos b]; exact .cons ⟨h1, h2⟩ ih
theorem KV.length {kvs : List (κ × V)} {vs : List (κ × Value)} (r : KV kvs vs) : kvs.length = vs.length := Paired.length r
theorem dropK_le (kvs : List (κ × V)) (k : κ) : (YF kvs k).length ≤ kvs.length := List.length_filter_le _ _
end
theorem TQ {P : Program} {w : World} {k : Key} {u : Value} (r : RelV (kV k) u) : (ZH P w).is k u = true := by
 cases k with
 | inl i => obtain ⟨t, e⟩ := (show ∃ t, u = Value.int i t from r); subst e; exact mixKind_int P w i t
 | inr x => obtain ⟨t, e⟩ := (show ∃ t, u = Value.str x t from r); subst e; exact mixKind_str P w x t
theorem RL {P : Program} {w : World} : ∀ {ks : List Key} {us : List Value}, Vals (ks.map kV) us → ItemsAre (ZH P w) ks us
 | [], _, r => by rw [List.map_nil] at r; cases r; exact .nil
 | k :: ks, _, r => by
   rw [List.map_cons] at r
   cases r with
   | cons h t => exact .cons (TQ h) (RL t)
abbrev KT (H : Hp) : List (List Key × V) → List (List Key × Addr × Value) → Prop := Paired fun p q => p.1 = q.1 ∧ H q.2.1 = some (.tup (p.1.map kV)) ∧ RelV p.2 q.2.2
theorem KT.val {H : Hp} {kvs : List (List Key × V)} {xs : List (List Key × Addr × Value)} (r : KT H kvs xs) (k : List Key) : RelO (valV kvs k) ((atKey xs k).map (·.2)) := by
 induction r with
 | nil => exact True.intro
 | @cons p q ps qs h t ih =>
   obtain ⟨h1, _, h2⟩ := h
   by_cases e : p.1 = k
   · have e' : q.1 = k := h1.symm.trans e
     have b : atKey (q :: qs) k = some q.2 := by simp [atKey, List.find?_cons, e']
     rw [UY e, b]; exact h2
   · have e' : ¬ q.1 = k := fun z => e (h1.trans z)
     have b : atKey (q :: qs) k = atKey qs k := by simp [atKey, List.find?_cons, e']
     rw [UZ e, b]; exact ih
theorem KT.repl {H : Hp} {kvs : List (List Key × V)} {xs : List (List Key × Addr × Value)} (r : KT H kvs xs) (k : List Key) {y : V} {u : Value} (ry : RelV y u) :
   KT H (kvs.map fun kv => if kv.1 = k then (kv.1, y) else kv) (xs.map (putAt k u)) := by
 induction r with
 | nil => exact .nil
 | @cons p q ps qs h t ih =>
   rw [List.map_cons, List.map_cons]
   refine .cons ?_ ih
   obtain ⟨h1, h2, h3⟩ := h
   unfold putAt
   by_cases e : p.1 = k
   · rw [if_pos e, if_pos (h1.symm.trans e)]; exact ⟨h1, h2, ry⟩
   · rw [if_neg e, if_neg (fun z => e (h1.trans z))]; exact ⟨h1, h2, h3⟩
theorem KT.put {H : Hp} {kvs : List (List Key × V)} {xs : List (List Key × Addr × Value)} (r : KT H kvs xs) (k : List Key) {b : Addr} {y : V} {u : Value} (hb : H b = some (.tup (k.map kV))) (ry : RelV y u) :
   KT H (putK kvs k y) (storedH xs k b u) := by
 have e : (kvs.any fun kv => decide (kv.1 = k)) = (atKey xs k).isSome := by
   rw [Sj, (r.val k).isSome_eq, Option.isSome_map]
 unfold putK storedH
 rw [e]
 by_cases q : (atKey xs k).isSome = true
 · rw [if_pos q, if_pos q]; exact r.repl k ry
 · rw [if_neg q, if_neg q]; exact Paired.snoc r ⟨rfl, hb, ry⟩
theorem KT.keeps {H H' : Hp} {kvs : List (List Key × V)} {xs : List (List Key × Addr × Value)} (r : KT H kvs xs) (ht : ∀ b ys, H b = some (.tup ys) → H' b = some (.tup ys)) : KT H' kvs xs :=
 Paired.mapP r fun _ _ z => ⟨z.1, ht _ _ z.2.1, z.2.2⟩
section
variable {P : Program} {w : World} {H : Hp} {h : Heap} {a : Addr}
theorem rd_of {u : HO} (ok : HOk P w H h) (e : Rd H a u) : ObjOk P w H h a u := e.ok ok
theorem TU {kvs : List (Key × V)} (ok : HOk P w H h) (e : Rd H a (.dK kvs)) : kvs.length ≤ sizeLine ∧ (a == sysModules) = false ∧ ∃ vs, KV kvs vs ∧ h.DictOf (ZH P w) a vs :=
 show ObjOk P w H h a (.dK kvs) from rd_of ok e
theorem SV {kvs : List (Key × V)} (ok : HOk P w H h) (e : H a = some (.dK kvs)) : kvs.length ≤ sizeLine ∧ (a == sysModules) = false ∧ ∃ vs, KV kvs vs ∧ h.DictOf (ZH P w) a vs := TU ok (.inl e)
theorem Uu {ks : List Key} (ok : HOk P w H h) (e : H a = some (.tup (ks.map kV))) : (tupleKind (ZH P w)).is h ks a := by
 obtain ⟨_, its, r, o, h1, h2, n, h3⟩ := (show ObjOk P w H h a (.tup (ks.map kV)) from ok a _ e)
 exact ⟨o, its.toArray, n, h1, h2, h3, by simpa using RL r⟩
theorem SU {kvs : List (List Key × V)} (ok : HOk P w H h) (e : Rd H a (.dT kvs)) : kvs.length ≤ sizeLine ∧ (a == sysModules) = false ∧
   ∃ xs, KT H kvs xs ∧ h.DictOfH (tupleKind (ZH P w)) a xs := by
 obtain ⟨z, y, xs, r, o, es, ep, h1, h2, h3, h4, h5⟩ := (show ObjOk P w H h a (.dT kvs) from rd_of ok e)
 refine ⟨z, y, xs, r, o, es, ep, h1, h2, h3, h4, fun x hx => ?_, h5⟩
 have all : ∀ {l : List (List Key × V)} {m : List (List Key × Addr × Value)}, KT H l m → ∀ x ∈ m, (tupleKind (ZH P w)).is h x.1 x.2.1 := by
   intro l m q
   induction q with
   | nil => intro x hx; exact nomatch hx
   | @cons p q ps qs hq t ih =>
     intro x hx
     rcases List.mem_cons.mp hx with e | hx
     · subst e
       exact Uu ok (by rw [← hq.1]; exact hq.2.1)
     · exact ih x hx
 exact all r x hx
theorem dt_of {kvs : List (List Key × V)} (ok : HOk P w H h) (e : H a = some (.dT kvs)) : kvs.length ≤ sizeLine ∧ (a == sysModules) = false ∧
   ∃ xs, KT H kvs xs ∧ h.DictOfH (tupleKind (ZH P w)) a xs := SU ok (.inl e)
end
def DGet (H : Hp) (a : Addr) (y : V) (r : Option V) : Prop :=
 (∃ kvs k, Rd H a (.dK kvs) ∧ y = kV k ∧ r = valV kvs k) ∨ ∃ kvs k b, Rd H a (.dT kvs) ∧ y = .ref b ∧ H b = some (.tup (k.map kV)) ∧ r = valV kvs k
def DPut (H : Hp) (a : Addr) (y v : V) (H' : Hp) : Prop :=
 (∃ kvs k, H a = some (.dK kvs) ∧ y = kV k ∧ kvs.length < sizeLine ∧ H' = upd H a (.dK (putK kvs k v))) ∨
 ∃ kvs k b, H a = some (.dT kvs) ∧ y = .ref b ∧ H b = some (.tup (k.map kV)) ∧ kvs.length < sizeLine ∧ H' = upd H a (.dT (putK kvs k v))
theorem DGet.k {H : Hp} {a : Addr} {kvs : List (Key × V)} {k : Key} (e : H a = some (.dK kvs)) : DGet H a (kV k) (valV kvs k) := .inl ⟨kvs, k, .inl e, rfl, rfl⟩
theorem DPut.k {H : Hp} {a : Addr} {kvs : List (Key × V)} {k : Key} {v : V} (e : H a = some (.dK kvs)) (hl : kvs.length < sizeLine) : DPut H a (kV k) v (upd H a (.dK (putK kvs k v))) := .inl ⟨kvs, k, e, rfl, hl, rfl⟩
section
variable {X : Cx} {pins : List (Addr × Obj)} {σ : St} {H : Hp} {s : Shared} {a : Addr} {y v : V} {u r : Value} {o : Option V} {A : Around} {E : Value → Shared → Prop}
theorem Inv.big (I : Inv X pins σ H s) : sysModules < s.heap.objs.size := by
 have h : mainGlobals < s.heap.objs.size := (I.mod.glob.keeps I.bk).lt
 exact Nat.lt_trans (by decide) h
theorem d_getItem {Q : Value → Shared → Prop} (hu : A.units + 1 < cLine) (I : Inv X pins σ H s) (g : DGet H a y (some v)) (ry : RelV y u) (h : ∀ w' s', Inv X pins σ H s' → RelV v w' → Q w' s') :
   wpAny (model X.prog X.w) A (getItem (.ref a) u) Q E s := by
 rcases g with ⟨kvs, k, e, ey, l⟩ | ⟨kvs, k, b, e, ey, eb, l⟩
 · subst ey
   obtain ⟨z, hd, vs, rel, dd⟩ := TU I.hok e
   obtain ⟨w', hw, rw'⟩ := RelO.some_of (v := v) (o := valueAt vs k) (by rw [l]; exact rel.val k)
   exact wpAny_getItem_of (TQ ry) dd.mapOf hw (h w' _ (I.tok _) rw')
 · subst ey
   cases (show u = Value.ref b from ry)
   obtain ⟨z, hd, xs, rel, dd⟩ := SU I.hok e
   obtain ⟨w', hw, rw'⟩ := RelO.some_of (v := v) (o := (atKey xs k).map (·.2)) (by rw [l]; exact rel.val k)
   obtain ⟨p, hp, hp2⟩ := Option.map_eq_some_iff.mp hw
   refine wpAny_getItem_heap (tupleKind_room_in1 hu) (Uu I.hok eb) dd hp ?_
   rw [hp2]
   exact h w' _ (I.tok _) rw'
theorem d_in {Q : Value → Shared → Prop} (hu : A.units + 1 < cLine) (I : Inv X pins σ H s) (g : DGet H a y o) (ry : RelV y u) (h : ∀ s', Inv X pins σ H s' → Q (.bool o.isSome) s') :
   wpAny (model X.prog X.w) A (compareOp .In u (.ref a)) Q E s := by
 rcases g with ⟨kvs, k, e, ey, l⟩ | ⟨kvs, k, b, e, ey, eb, l⟩
 · subst ey
   obtain ⟨z, hd, vs, rel, dd⟩ := TU I.hok e
   refine wpAny_in_of (TQ ry) hd dd.mapOf ?_
   rw [← (rel.val k).isSome_eq, ← l]
   exact h _ (I.tok _)
 · subst ey
   cases (show u = Value.ref b from ry)
   obtain ⟨z, hd, xs, rel, dd⟩ := SU I.hok e
   refine wpAny_in_heap (tupleKind_room_in1 hu) (Uu I.hok eb) hd dd ?_
   have q := (rel.val k).isSome_eq
   rw [Option.isSome_map] at q
   rw [← q, ← l]
   exact h _ (I.tok _)
theorem d_notIn {Q : Value → Shared → Prop} (hu : A.units + 1 < cLine) (I : Inv X pins σ H s) (g : DGet H a y o) (ry : RelV y u) (h : ∀ s', Inv X pins σ H s' → Q (.bool (!o.isSome)) s') :
   wpAny (model X.prog X.w) A (compareOp .NotIn u (.ref a)) Q E s := by
 rcases g with ⟨kvs, k, e, ey, l⟩ | ⟨kvs, k, b, e, ey, eb, l⟩
 · subst ey
   obtain ⟨z, hd, vs, rel, dd⟩ := TU I.hok e
   refine wpAny_notIn_of (TQ ry) hd dd.mapOf ?_
   rw [← (rel.val k).isSome_eq, ← l]
   exact h _ (I.tok _)
 · subst ey
   cases (show u = Value.ref b from ry)
   obtain ⟨z, hd, xs, rel, dd⟩ := SU I.hok e
   refine wpAny_notIn_heap (tupleKind_room_in1 hu) (Uu I.hok eb) hd dd ?_
   have q := (rel.val k).isSome_eq
   rw [Option.isSome_map] at q
   rw [← q, ← l]
   exact h _ (I.tok _)
theorem Ti {h' : Heap} {t' : Nat} {ob : HO} (I : Inv X pins σ H s) (mu : Mut (H a)) (hs : Heap.SameBut a s.heap h') (he : ∃ q, h'.get? a = some q) (new : ObjOk X.prog X.w (upd H a ob) h' a ob) :
   Inv X pins σ (upd H a ob) { s with heap := h', toks := t' } :=
 I.write (x := a) (e := a) mu (.inl rfl) (fun b q hb z => (hs.2 b hb).trans z) he new
theorem dk_new {P : Program} {w : World} {H' : Hp} {h' : Heap} {kvs : List (Key × V)} {vs : List (Key × Value)} (z : kvs.length ≤ sizeLine) (hd : (a == sysModules) = false) (rel : KV kvs vs) (dd : h'.DictOf (ZH P w) a vs) :
   ObjOk P w H' h' a (.dK kvs) := ⟨z, hd, vs, rel, dd⟩
theorem d_setItem {H' : Hp} {Q : Unit → Shared → Prop} (hu : A.units + 1 < cLine) (I : Inv X pins σ H s) (g : DPut H a y v H') (ry : RelV y u) (rv : RelV v r) (h : ∀ s', Inv X pins σ H' s' → Q () s') :
   wpAny (model X.prog X.w) A (setItem (.ref a) u r) Q E s := by
 rcases g with ⟨kvs, k, e, ey, l, eH⟩ | ⟨kvs, k, b, e, ey, eb, l, eH⟩
 · subst ey eH
   obtain ⟨z, hd, vs, rel, dd⟩ := SV I.hok e
   have hz : vs.length ≤ sizeLine := by rw [← rel.length]; exact z
   have hl : (putK kvs k v).length ≤ sizeLine := by have := Us kvs k v; omega
   refine wpAny_setItem_pairs (hsz := hz) (TQ ry) dd fun h' dd' hs => h _ ?_
   have he : ∃ q, h'.get? a = some q := let ⟨q, _, _, hq, _⟩ := dd'; ⟨q, hq⟩
   exact Ti I (by rw [e]; exact True.intro) hs he (dk_new hl hd (rel.put k rv) dd')
 · subst ey eH
   cases (show u = Value.ref b from ry)
   obtain ⟨z, hd, xs, rel, dd⟩ := dt_of I.hok e
   have hz : xs.length ≤ sizeLine := by rw [← Paired.length rel]; exact z
   have hl : (putK kvs k v).length ≤ sizeLine := by have := Us kvs k v; omega
   refine wpAny_setItem_heap (hsz := hz) (tupleKind_room_in1 hu) (Uu I.hok eb) dd fun h' dd' hs => h _ ?_
   obtain ⟨q, es, ep, hq, h2, h3, h4, _, h5⟩ := dd'
   refine Ti I (by rw [e]; exact True.intro) hs ⟨q, hq⟩ ⟨hl, hd, _, (rel.put k eb rv).keeps fun c ys ec => ?_, q, es, ep, hq, h2, h3, h4, h5⟩
   rw [Zc (ne_of ec e (fun z => nomatch z))]
   exact ec
end
section
variable {X : Cx} {pins : List (Addr × Obj)} {σ : St} {H : Hp} {s : Shared} {a : Addr} {kvs : List (Key × V)} {k : Key} {u : Value} {A : Around} {E : Value → Shared → Prop}
theorem d_pop {v : V} {more : List Value} {Q : Value → Shared → Prop} (I : Inv X pins σ H s) (e : H a = some (.dK kvs)) (ry : RelV (kV k) u) (l : valV kvs k = some v) (hm : more = [] ∨ ∃ x, more = [x])
   (h : ∀ w' s', Inv X pins σ (upd H a (.dK (YF kvs k))) s' → RelV v w' → Q w' s') : wpAny (model X.prog X.w) A (call (.builtin "dict.pop") (.ref a :: u :: more)) Q E s := by
 obtain ⟨z, hd, vs, rel, dd⟩ := SV I.hok e
 obtain ⟨w', hw, rw'⟩ := RelO.some_of (v := v) (o := valueAt vs k) (by rw [← l]; exact rel.val k)
 have hp : (keyPart u).isSome = true := by
   cases k with
   | inl i => obtain ⟨t, q⟩ := (show ∃ t, u = Value.int i t from ry); subst q; rfl
   | inr x => obtain ⟨t, q⟩ := (show ∃ t, u = Value.str x t from ry); subst q; rfl
 have ha : argsOk "dict.pop" ⟨.ref a :: u :: more, []⟩ := by
   rcases hm with q | ⟨x, q⟩
   · subst q; exact F.args_dict_pop_2 _ _
   · subst q; exact F.args_dict_pop_3 _ _ _
 refine call_meetsIn F.slot_dict_pop dd.typeIs F.entry_dict_pop ha (meets_dict_pop_there (ZH X.prog X.w) a (TQ ry) more hm hp)
   ⟨vs, w', dd, by rw [← rel.length]; exact z, hw, fun h' dd' hs => h w' _ ?_ rw'⟩
 have he : ∃ q, h'.get? a = some q := let ⟨q, _, _, hq, _⟩ := dd'; ⟨q, hq⟩
 exact Ti I (by rw [e]; exact True.intro) hs he (dk_new (Nat.le_trans (dropK_le kvs k) z) hd (rel.drop k) dd')
theorem d_len {Q : Value → Shared → Prop} (I : Inv X pins σ H s) (e : Rd H a (.dK kvs)) (h : ∀ t s', Inv X pins σ H s' → Q (.int kvs.length t) s') : wpAny (model X.prog X.w) A (call (.builtin "len") [.ref a]) Q E s := by
 obtain ⟨z, hd, vs, rel, dd⟩ := TU I.hok e
 refine call_len_dict hd dd (by rw [← rel.length]; rw [sizeLine_eq] at z; omega) ?_
 rw [← rel.length]
 exact h _ _ (I.tok _)
end
def NoSl (i : Expr) : Prop := ∀ ov iv, subscripted i false ov iv = operate [ov, iv] (getItem ov iv)
theorem subD_of {prog : Program} {w : World} {A : Around} {E : Value → Shared → Prop} {s : Shared} {env : Env} {value slice : Expr} {pos : Pos} {T id : String} {Q : Value → Shared → Prop}
   (hl : typeLookup (.type T) "__getitem__" = pure (some (.builtin id))) (hs : NoSl slice)
   (h : wpAny (model prog w) A (eval value env) (fun o s₁ => wpAny (model prog w) A (eval slice env) (fun i s₂ => s₂.TypeIs o T ∧ wpAny (model prog w) A (getItem o i) Q E s₂) E s₁) E s) :
   wpAny (model prog w) A (eval (.Subscript value slice pos) env) Q E s := by
 refine Subscript_ (wpAny_mono h (fun o s₁ h₁ => wpAny_mono h₁ (fun i s₂ h₂ => ?_) fun _ _ x => x) fun _ _ x => x)
 obtain ⟨hT, h₂⟩ := h₂
 unfold subscriptTail
 refine wpAny_bind ?_
 rw [getitemInPython_of_ne hT.not_modules]
 refine wpAny_bind (wpAny_specialOf hT hl ?_)
 have fin : wpAny (model prog w) A (subscripted slice false o i) (fun r s₃ => wpAny (model prog w) A (letTemporaryGo value o r >>= fun _ => pure r) Q E s₃) E s₂ := by
   rw [hs o i]
   exact wpAny_operating (wpAny_mono h₂ (fun r s₃ h₃ => wpAny_bind (wpAny_letTemporaryGo (wpAny_pure h₃))) fun _ _ x => x)
 first
   | exact wpAny_pure (wpAny_bind fin)
   | exact wpAny_bind (wpAny_pure (wpAny_bind fin))
   | exact wpAny_bind fin
theorem dict_typeIs {X : Cx} {pins : List (Addr × Obj)} {σ : St} {H : Hp} {s : Shared} {a : Addr} {y : V} {o : Option V} (I : Inv X pins σ H s) (g : DGet H a y o) : s.TypeIs (.ref a) "dict" := by
 rcases g with ⟨kvs, k, e, _, _⟩ | ⟨kvs, k, b, e, _, _, _⟩
 · obtain ⟨_, _, vs, _, dd⟩ := TU I.hok e
   exact dd.typeIs
 · obtain ⟨_, _, xs, _, dd⟩ := SU I.hok e
   exact dd.typeIs
def tDGet (td ty : TE) : TE := fun σ H Q => td σ H fun x H1 => ty σ H1 fun y H2 => ∃ a v, x = .ref a ∧ DGet H2 a y (some v) ∧ Q v H2
def tDIn (ty td : TE) : TE := fun σ H Q => ty σ H fun y H1 => td σ H1 fun x H2 => ∃ a o, x = .ref a ∧ DGet H2 a y o ∧ Q (.bl o.isSome) H2
def tDNotIn (ty td : TE) : TE := fun σ H Q => ty σ H fun y H1 => td σ H1 fun x H2 => ∃ a o, x = .ref a ∧ DGet H2 a y o ∧ Q (.bl (!o.isSome)) H2
def sDPut (td ty tv : TE) : TS := fun D σ H => tv σ H fun v H1 => td σ H1 fun x H2 => ty σ H2 fun y H3 => ∃ a H4, x = .ref a ∧ DPut H3 a y v H4 ∧ D.nx σ H4
section
variable {X : Cx} {o i e value : Expr} {pos pos' tpos : Pos} {td ty tv : TE}
theorem Zs (hu : X.A.units + 1 < cLine) (ho : PE X o td) (hi : PE X i ty) (hs : NoSl i) : PE X (.Subscript o i pos) (tDGet td ty) := by
 intro pins s σ H Q I h
 refine subD_of F.slot_dict_getitem.lookup hs (thn (ho pins s σ H _ I h) fun u s1 ⟨x, H1, I1, rx, q1⟩ => thn (hi pins s1 σ H1 _ I1 q1) fun iv s2 ⟨y, H2, I2, ry, a, v, ex, g, q2⟩ => ?_)
 subst ex
 obtain rfl : u = Value.ref a := rx
 exact ⟨dict_typeIs I2 g, d_getItem hu I2 g ry fun w' s3 I3 rw' => ⟨v, H2, I3, rw', q2⟩⟩
theorem pc_din (hu : X.A.units + 1 < cLine) (hi : PE X i ty) (ho : PE X o td) : PC X .In i o (tDIn ty td) := by
 intro pins s σ H Q I h
 refine thn (hi pins s σ H _ I h) fun iv s1 ⟨y, H1, I1, ry, q1⟩ => thn (ho pins s1 σ H1 _ I1 q1) fun u s2 ⟨x, H2, I2, rx, a, ov, ex, g, q2⟩ => ?_
 subst ex
 obtain rfl : u = Value.ref a := rx
 exact d_in hu I2 g ry fun s3 I3 => ⟨.bl ov.isSome, H2, I3, rfl, q2⟩
theorem Vi (hu : X.A.units + 1 < cLine) (hi : PE X i ty) (ho : PE X o td) : PC X .NotIn i o (tDNotIn ty td) := by
 intro pins s σ H Q I h
 refine thn (hi pins s σ H _ I h) fun iv s1 ⟨y, H1, I1, ry, q1⟩ => thn (ho pins s1 σ H1 _ I1 q1) fun u s2 ⟨x, H2, I2, rx, a, ov, ex, g, q2⟩ => ?_
 subst ex
 obtain rfl : u = Value.ref a := rx
 exact d_notIn hu I2 g ry fun s3 I3 => ⟨.bl (!ov.isSome), H2, I3, rfl, q2⟩
theorem YI (hu : X.A.units + 1 < cLine) (ho : PE X o td) (hi : PE X i ty) (hv : PE X value tv) (hs : swapsWith value (some (.Subscript o i pos')) pos.line X.env = pure false) :
   PS X (.Assign [.Subscript o i pos'] value pos) (sDPut td ty tv) := by
 intro pins s σ H D I h
 refine wpAny_Assign_Subscript (thn (hv pins s σ H _ I h) fun r s1 ⟨v, H1, I1, rv, q1⟩ => thn (ho pins s1 σ H1 _ I1 q1) fun u s2 ⟨x, H2, I2, rx, q2⟩ => thn (hi pins s2 σ H2 _ I2 q2) fun iv s3 ⟨y, H3, I3, ry, a, H4, ex, g, q3⟩ => ?_) hs
 subst ex
 obtain rfl : u = Value.ref a := rx
 exact d_setItem hu I3 g ry rv fun s4 I4 => ⟨σ, H4, I4, q3⟩
end
theorem dk_empty {P : Program} {w : World} {H : Hp} (h : Heap) (hb : sysModules < h.objs.size) : ObjOk P w H (h.push { cls := .type "dict", data := .dict #[] }) h.objs.size (.dK []) :=
 ⟨Nat.zero_le _, beq_eq_false_iff_ne.mpr (Ne.symm (Nat.ne_of_lt hb)), [], .nil, Heap.DictOf.new h⟩
def tDNewK : TE := fun _ H Q => ∀ p, H p = none → Q (.ref p) (upd H p (.dK []))
section
variable {X : Cx} {pos : Pos}
theorem XA : PE X (.Dict [] [] pos) tDNewK := fun pins s σ H Q I h =>
 wpAny_Dict_empty ⟨.ref s.heap.objs.size, _, I.laid (a := s.heap.objs.size) (o := .dK []) (t' := s.toks) (fun _ _ q => Heap.get?_push_of_some _ q) (Nat.le_refl _) (dk_empty s.heap I.big), rfl, h _ (I.hok.fresh (Nat.le_refl _))⟩
end
def tPairs : List (TE × TE) → St → Hp → (List (V × V) → Hp → Prop) → Prop
 | [], _, H, Q => Q [] H
 | (tk, tv) :: r, σ, H, Q => tk σ H fun x H1 => tv σ H1 fun y H2 => tPairs r σ H2 fun ps H3 => Q ((x, y) :: ps) H3
abbrev VV : List (V × V) → List (Value × Value) → Prop := Paired fun p q => RelV p.1 q.1 ∧ RelV p.2 q.2
def PPs (X : Cx) (pos : Pos) (keys : List (Option Expr)) (values : List Expr) (trs : List (TE × TE)) : Prop :=
 ∀ (pins : List (Addr × Obj)) (s : Shared) (σ : St) (H : Hp) (Q : List (V × V) → Hp → Prop), Inv X pins σ H s → tPairs trs σ H Q →
   wpAny (model X.prog X.w) X.A (evalPairs (pairTrees keys values X.env pos)) (fun vs s' => ∃ ps H', Inv X pins σ H' s' ∧ VV ps vs ∧ Q ps H') X.xe s
theorem pps_nil {X : Cx} {pos : Pos} : PPs X pos [] [] [] := fun pins s σ H Q I h => pairTrees_nil_walk ⟨[], H, I, .nil, h⟩
theorem VE {X : Cx} {pos : Pos} {k v : Expr} {ks : List (Option Expr)} {vs : List Expr} {tk tv : TE} {trs : List (TE × TE)} (hk : PE X k tk) (hv : PE X v tv) (hr : PPs X pos ks vs trs) :
   PPs X pos (some k :: ks) (v :: vs) ((tk, tv) :: trs) := fun pins s σ H Q I h =>
 pairTrees_cons_walk (thn (hk pins s σ H _ I h) fun u s1 ⟨x, H1, I1, rx, q1⟩ => thn (hv pins s1 σ H1 _ I1 q1) fun w2 s2 ⟨y, H2, I2, ry, q2⟩ =>
   thn (hr pins s2 σ H2 _ I2 q2) fun ws s3 ⟨ps, H3, I3, rel, q3⟩ => ⟨(x, y) :: ps, H3, I3, .cons ⟨rx, ry⟩ rel, q3⟩)
def TC (kvs more : List (Key × V)) : List (Key × V) := more.foldl (fun acc kv => putK acc kv.1 kv.2) kvs
theorem KV.merge : ∀ {more : List (Key × V)} {rs : List (Key × Value)} {kvs : List (Key × V)} {vs : List (Key × Value)}, KV more rs → KV kvs vs → KV (TC kvs more) (merged vs rs) := by
 intro more rs kvs vs r
 unfold KV at r
 induction r generalizing kvs vs with
 | nil => intro q; exact q
 | @cons p q ps qs h t ih =>
   intro r0
   have e : KV (putK kvs p.1 p.2) (stored vs q.1 q.2) := by
     have := r0.put p.1 h.2
     rw [← h.1]; exact this
   exact ih e
theorem UO : ∀ (more kvs : List (Key × V)), (TC kvs more).length ≤ kvs.length + more.length
 | [], kvs => by show kvs.length ≤ kvs.length + 0; omega
 | p :: r, kvs => by
   have h1 := UO r (putK kvs p.1 p.2)
   have h2 := Us kvs p.1 p.2
   show (TC (putK kvs p.1 p.2) r).length ≤ _
   rw [List.length_cons]; omega
theorem SW {P : Program} {w : World} : ∀ {kvs : List (Key × V)} {ws : List (Value × Value)}, VV (kvs.map fun kv => (kV kv.1, kv.2)) ws → ∃ rs, Carries (ZH P w) ws rs ∧ KV kvs rs
 | [], _, r => by rw [List.map_nil] at r; cases r; exact ⟨[], True.intro, .nil⟩
 | p :: kvs, _, r => by
   rw [List.map_cons] at r
   cases r with
   | @cons a b as bs h t =>
     obtain ⟨rs, c, q⟩ := SW (P := P) (w := w) t
     obtain ⟨b1, b2⟩ := b
     exact ⟨(p.1, b2) :: rs, ⟨TQ h.1, rfl, c⟩, .cons ⟨rfl, h.2⟩ q⟩
def tDisp (trs : List (TE × TE)) : TE := fun σ H Q => ∀ p, H p = none → tPairs trs σ (upd H p (.dK [])) fun ps H2 => H2 p = some (.dK []) ∧ ∃ kvs : List (Key × V), ps = kvs.map (fun kv => (kV kv.1, kv.2)) ∧ kvs.length ≤ 15 ∧ Q (.ref p) (upd H2 p (.dK (TC [] kvs)))
theorem pe_disp {X : Cx} {pos : Pos} {keys : List (Option Expr)} {values : List Expr} {trs : List (TE × TE)} (h : PPs X pos keys values trs) (hall : keys.all (·.isSome) = true) (hl : keys.length = values.length) (h0 : keys ≠ [])
   (h15 : keys.length ≤ 15) : PE X (.Dict keys values pos) (tDisp trs) := by
 intro pins s σ H Q I q
 have hn := I.hok.fresh (Nat.le_refl s.heap.objs.size)
 have I1 := I.laid (a := s.heap.objs.size) (o := .dK []) (h' := s.heap.push { cls := .type "dict", data := .dict #[] }) (t' := s.toks) (fun _ _ q => Heap.get?_push_of_some _ q) (Nat.le_refl _) (dk_empty s.heap I.big)
 refine wpAny_Dict_walk (knd := ZH X.prog X.w) hall hl h0 h15 (thn (h pins _ σ _ _ I1 (q _ hn)) fun ws s2 ⟨ps, H2, I2, rel, e, kvs, ep, lk, q2⟩ => ?_)
 subst ep
 obtain ⟨rs, c, rk⟩ := SW (P := X.prog) (w := X.w) rel
 obtain ⟨z, hd, vs0, r0, dd⟩ := SV I2.hok e
 cases r0
 refine ⟨rs, c, dd, fun h' dd' hs => ⟨.ref s.heap.objs.size, _, ?_, rfl, q2⟩⟩
 have hz : (TC [] kvs).length ≤ sizeLine := by
   have h1 := UO kvs []
   rw [List.length_nil] at h1
   rw [sizeLine_eq]; omega
 have he : ∃ q, h'.get? s.heap.objs.size = some q := let ⟨q, _, _, hq, _⟩ := dd'; ⟨q, hq⟩
 exact Ti I2 (by rw [e]; exact True.intro) hs he (dk_new hz hd (rk.merge .nil) dd')
structure M1 (X : Cx) (o : Expr) (m : Str) (apos : Pos) (e : Expr) (cpos : Pos) : Prop where
 base : attributeBase o m X.env (eval o X.env) = eval o X.env
 few : ((backTo cpos (starEach [e] X.env)).all (fun x => !x.1) && (backToKw cpos (keywordEach [] X.env)).all (fun x => x.1.isSome)
   && decide (([e] : List Expr).length + ([] : List Keyword).length + (if ([] : List Keyword).isEmpty then 0 else 1) < 30)) = true
 line : (apos.endLine == cpos.line) = true
 trees : backTo cpos (starEach [e] X.env) = [(false, eval e X.env)]
structure M2 (X : Cx) (o : Expr) (m : Str) (apos : Pos) (e f : Expr) (cpos : Pos) : Prop where
 base : attributeBase o m X.env (eval o X.env) = eval o X.env
 few : ((backTo cpos (starEach [e, f] X.env)).all (fun x => !x.1) && (backToKw cpos (keywordEach [] X.env)).all (fun x => x.1.isSome)
   && decide (([e, f] : List Expr).length + ([] : List Keyword).length + (if ([] : List Keyword).isEmpty then 0 else 1) < 30)) = true
 line : (apos.endLine == cpos.line) = true
 trees : backTo cpos (starEach [e, f] X.env) = [(false, eval e X.env), (false, eval f X.env)]
def IsD (H : Hp) (a : Addr) : Prop := (∃ kvs, Rd H a (.dK kvs)) ∨ ∃ kvs, Rd H a (.dT kvs)
theorem isD_at {X : Cx} {pins : List (Addr × Obj)} {σ : St} {H : Hp} {s : Shared} {a : Addr} (I : Inv X pins σ H s) (d : IsD H a) :
   s.TypeIs (.ref a) "dict" ∧ (∀ b, Value.ref a = .ref b → ∃ ob, s.heap.get? b = some ob ∧ ob.dict = none) ∧ (a == sysModules) = false := by
 rcases d with ⟨kvs, e⟩ | ⟨kvs, e⟩
 · obtain ⟨_, hd, vs, _, dd⟩ := TU I.hok e
   refine ⟨dd.typeIs, fun b q => ?_, hd⟩
   cases q
   obtain ⟨ob, _, _, h1, h2, _⟩ := dd
   exact ⟨ob, h1, h2.2.1⟩
 · obtain ⟨_, hd, xs, _, dd⟩ := SU I.hok e
   refine ⟨dd.typeIs, fun b q => ?_, hd⟩
   cases q
   obtain ⟨ob, _, _, h1, h2, _⟩ := dd
   exact ⟨ob, h1, h2.2.1⟩
section
variable {X : Cx} {pins : List (Addr × Obj)} {σ : St} {H : Hp} {s : Shared} {a : Addr} {y d : V} {u r : Value} {o : Option V} {A : Around} {E : Value → Shared → Prop}
theorem d_get2 {Q : Value → Shared → Prop} (hu : A.units + 1 < cLine) (I : Inv X pins σ H s) (g : DGet H a y o) (ry : RelV y u) (rd : RelV d r) (h : ∀ w' s', Inv X pins σ H s' → RelV (o.getD d) w' → Q w' s') :
   wpAny (model X.prog X.w) A (call (.builtin "dict.get") [.ref a, u, r]) Q E s := by
 rcases g with ⟨kvs, k, e, ey, l⟩ | ⟨kvs, k, b, e, ey, eb, l⟩
 · subst ey
   obtain ⟨z, hd, vs, rel, dd⟩ := TU I.hok e
   refine call_meetsIn F.slot_dict_get dd.typeIs F.entry_dict_get (F.args_dict_get_3 _ _ _) (meets_dict_get_default (ZH X.prog X.w) a (TQ ry) hd r) ⟨_, dd.mapOf, h _ _ (I.tok _) ?_⟩
   rw [l]
   exact (rel.val k).getD rd
 · subst ey
   cases (show u = Value.ref b from ry)
   obtain ⟨z, hd, xs, rel, dd⟩ := SU I.hok e
   refine call_meetsIn F.slot_dict_get dd.typeIs F.entry_dict_get (F.args_dict_get_3 _ _ _) (meetsH_dict_get_default (tupleKind (ZH X.prog X.w)) a b hd r) ⟨tupleKind_room_in1 hu, k, xs, Uu I.hok eb, dd, h _ _ (I.tok _) ?_⟩
   rw [l]
   exact (rel.val k).getD rd
end
def tDGet2 (td ty tx : TE) : TE := fun σ H Q => td σ H fun x H1 => ∃ a, x = .ref a ∧ IsD H1 a ∧ ty σ H1 fun y H2 => tx σ H2 fun z H3 => ∃ o, DGet H3 a y o ∧ Q (o.getD z) H3
def tDPop1 (td ty : TE) : TE := fun σ H Q => td σ H fun x H1 => ∃ a, x = .ref a ∧ IsD H1 a ∧ ty σ H1 fun y H2 => ∃ kvs k v, H2 a = some (.dK kvs) ∧ y = kV k ∧ valV kvs k = some v ∧ Q v (upd H2 a (.dK (YF kvs k)))
section
variable {X : Cx} {o e f : Expr} {apos cpos : Pos} {td ty tx : TE}
theorem pe_dget2 (hu : X.A.units + 1 < cLine) (ho : PE X o td) (he : PE X e ty) (hf : PE X f tx) (m : M2 X o "get" apos e f cpos) : PE X (.Call (.Attribute o "get" apos) [e, f] [] cpos) (tDGet2 td ty tx) := by
 intro pins s σ H Q I h
 refine wpAny_Call_method m.base m.few m.line F.plainAttrs_dict F.slot_dict_get F.type_dict_get (thn (ho pins s σ H _ I h) fun u s1 ⟨x, H1, I1, rx, a, ex, d, q1⟩ => ?_)
 subst ex
 obtain rfl : u = Value.ref a := rx
 obtain ⟨t1, t2, _⟩ := isD_at I1 d
 refine ⟨t1, t2, ?_⟩
 rw [m.trees]
 refine Calls.callWith_builtin rfl (Calls.evalArgs_plain (Calls.spliced_cons (thn (he pins s1 σ H1 _ I1 q1) fun iv s2 ⟨y, H2, I2, ry, q2⟩ =>
   Calls.spliced_cons (thn (hf pins s2 σ H2 _ I2 q2) fun fv s3 ⟨z, H3, I3, rz, ov, g, q3⟩ => Calls.spliced_nil ?_))))
 exact d_get2 hu I3 g ry rz fun w' s4 I4 rw' => ⟨_, H3, I4, rw', q3⟩
theorem YK (ho : PE X o td) (he : PE X e ty) (m : M1 X o "pop" apos e cpos) : PE X (.Call (.Attribute o "pop" apos) [e] [] cpos) (tDPop1 td ty) := by
 intro pins s σ H Q I h
 refine wpAny_Call_method m.base m.few m.line F.plainAttrs_dict F.slot_dict_pop F.type_dict_pop (thn (ho pins s σ H _ I h) fun u s1 ⟨x, H1, I1, rx, a, ex, d, q1⟩ => ?_)
 subst ex
 obtain rfl : u = Value.ref a := rx
 obtain ⟨t1, t2, _⟩ := isD_at I1 d
 refine ⟨t1, t2, ?_⟩
 rw [m.trees]
 refine Calls.callWith_builtin rfl (Calls.evalArgs_plain (Calls.spliced_cons (thn (he pins s1 σ H1 _ I1 q1) fun iv s2 ⟨y, H2, I2, ry, kvs, k, v, ea, ey, l, q2⟩ => Calls.spliced_nil ?_)))
 subst ey
 exact d_pop I2 ea ry l (.inl rfl) fun w' s3 I3 rw' => ⟨v, _, I3, rw', q2⟩
end
section
variable {X : Cx} {pins : List (Addr × Obj)} {σ : St} {H : Hp} {s : Shared} {a : Addr} {kvs : List (Key × V)} {A : Around} {E : Value → Shared → Prop}
end
section
variable {X : Cx} {pins : List (Addr × Obj)} {σ : St} {H : Hp} {s : Shared} {a : Addr} {y : V} {u : Value} {A : Around} {E : Value → Shared → Prop}
end
end L2
namespace HT
open PySem PyProof.Rows
def lexLt : List Int → List Int → Bool
 | [], [] => false
 | [], _ :: _ => true
 | _ :: _, [] => false
 | x :: xs, y :: ys => if x = y then lexLt xs ys else decide (x < y)
theorem lexLt_cons (x y : Int) (xs ys : List Int) : lexLt (x :: xs) (y :: ys) = if x = y then lexLt xs ys else decide (x < y) := rfl
theorem Rp : lexLt [] [] = false := rfl
theorem SJ (y : Int) (ys : List Int) : lexLt [] (y :: ys) = true := rfl
theorem SK (x : Int) (xs : List Int) : lexLt (x :: xs) [] = false := rfl
theorem eqAt_int (A : Around) (s : Shared) (a : Int) (t : Tok) (c : Int) (u : Tok) : ∃ e, SeqAt.EqAt A s (.int a t) (.int c u) e ∧ (e = true ↔ a = c) :=
 ⟨(a == c), SeqAt.EqAt.int_int a t c u, by simp⟩
theorem rcLt_int (A : Around) (s : Shared) (a : Int) (t : Tok) (c : Int) (u : Tok) (prog : Program) (w : World) (E : Value → Shared → Prop) (Q : Value → Shared → Prop) (h : Q (.bool (decide (a < c))) s) :
   wpAny (model prog w) A (richCompare .Lt (.int a t) (.int c u)) Q E s :=
 (PyProof.Rows.lt_int h : wpAny (model prog w) A (compareOp .Lt (.int a t) (.int c u)) Q E s)
section
open PySem.SeqAt
open PySem.AutoSeq1 (wpAny_loadPart')
open PySem.MeetsSeq PySem.MeetsSeq2 PySem.MeetsSeq3
theorem SZ (l b : Addr) (items items2 : Array Value) (n n2 : Nat) (dd dd2 : Option Addr) (sl sl2 : Array (Option Value)) (ns ms : List Int) (hi : IntsAre items.toList ns) (hj : IntsAre items2.toList ms) :
   Meets (Builtin.«tuple.__lt__» ⟨[.ref l, .ref b], []⟩)
     (fun _ R s => s.heap.get? l = some { cls := .type "tuple", dict := dd, data := .seq items n, slots := sl } ∧ s.heap.get? b = some { cls := .type "tuple", dict := dd2, data := .seq items2 n2, slots := sl2 } ∧
       R (.ok (.ret (.bool (lexLt ns ms)))) s) :=
 .of_wp fun prog w A R s h => by
   obtain ⟨hp, g, d, tk, os⟩ := s; obtain ⟨hl, hb, h⟩ := h
   have f2 := AutoSeq1.sub_tuple_tuple
   have z1 : items.size = ns.length := by rw [← hi.length]; simp
   have z2 : items2.size = ms.length := by rw [← hj.length]; simp
   wp_walk using wpAny_loadPart' hl, wpAny_loadPart' hb, wpAny_forIn_list _ (fun rest b s' => b.1 = none ∧ s' = ⟨hp, g, d, tk, os⟩ ∧ ∃ (vs ws : List Value) (ns' ms' : List Int), rest = vs.zip ws ∧
     IntsAre vs ns' ∧ IntsAre ws ms' ∧ ns'.length + items2.size = ms'.length + items.size ∧ R (.ok (.ret (.bool (lexLt ns' ms')))) ⟨hp, g, d, tk, os⟩) _
   case turn =>
     rintro ⟨y, x⟩ rest b s' ⟨hb', rfl, vs, ws, ns', ms', hz, hvi, hwi, hlen, hR⟩
     cases hvi with
     | nil => rw [List.zip_nil_left] at hz; cases hz
     | cons a t hvi' =>
       cases hwi with
       | nil => rw [List.zip_nil_right] at hz; cases hz
       | cons c u hwi' =>
         rw [List.zip_cons_cons] at hz
         injection hz with hyx hrest
         injection hyx with hy hx
         subst hy hx
         rw [lexLt_cons] at hR
         simp only [List.length_cons] at hlen
         obtain ⟨e, he, hiff⟩ := eqAt_int A.in1 ⟨hp, g, d, tk, os⟩ a t c u
         refine wpAny_bind (he prog w _ _ ?_)
         cases e with
         | true =>
           rw [if_pos (hiff.mp rfl)] at hR
           wp_walk
           exact ⟨rfl, rfl, _, _, _, _, hrest, hvi', hwi', by omega, hR⟩
         | false =>
           rw [if_neg (fun q => absurd (hiff.mpr q) Bool.false_ne_true)] at hR
           have hri := rcLt_int A.in1 ⟨hp, g, d, tk, os⟩ a t c u prog w
           wp_walk using hri
           exact ⟨_, rfl, by simpa using hR⟩
   case fin =>
     rintro ⟨b1, b2⟩ s' ⟨hb', rfl, vs, ws, ns', ms', hz, hvi, hwi, hlen, hR⟩
     simp only at hb'
     subst hb'
     have hv : lexLt ns' ms' = decide (items.size < items2.size) := by
       cases hvi with
       | nil =>
         cases hwi with
         | nil =>
           simp only [List.length_nil] at hlen
           rw [Rp]
           exact (decide_eq_false (by omega)).symm
         | cons c u hw =>
           simp only [List.length_nil, List.length_cons] at hlen
           rw [SJ]
           exact (decide_eq_true (by omega)).symm
       | cons a t hv =>
         cases hwi with
         | nil =>
           simp only [List.length_nil, List.length_cons] at hlen
           rw [SK]
           exact (decide_eq_false (by omega)).symm
         | cons c u hw =>
           rw [List.zip_cons_cons] at hz
           cases hz
     rw [hv] at hR
     wp_walk
     exact ⟨_, rfl, by simpa [Builtin.Tuple.tupleCompareSizes] using hR⟩
   case h =>
     exact ⟨rfl, rfl, items.toList, items2.toList, ns, ms, rfl, hi, hj, by omega, h⟩
end
section
variable {prog : Program} {w : World} {A : Around} {E : Value → Shared → Prop} {s : Shared}
theorem lt_tupInts {l b : Addr} {items items2 : Array Value} {ns ms : List Int} {Q : Value → Shared → Prop} (hl : IsTup s.heap l items) (hb : IsTup s.heap b items2) (hi : IntsAre items.toList ns) (hj : IntsAre items2.toList ms)
   (hu : A.units < cLine) (h : Q (.bool (lexLt ns ms)) s) : wpAny (model prog w) A (compareOp .Lt (.ref l) (.ref b)) Q E s := by
 obtain ⟨⟨cls, dd, data, sl⟩, ho, hc, n, hd⟩ := id hl
 obtain ⟨⟨cls2, dd2, data2, sl2⟩, ho2, hc2, n2, hd2⟩ := id hb
 simp only at hc hd hc2 hd2
 subst hc hd hc2 hd2
 exact richCompare_meets_room (op := .Lt) ⟨_, ho, rfl⟩ ⟨_, ho2, rfl⟩ F.slot_tuple_lt F.entry_tuple_lt (F.args_tuple_lt_2 _ _) (SZ l b items items2 n n2 dd dd2 sl sl2 ns ms hi hj)
   ⟨ho, ho2, show Value.bool (lexLt ns ms) ≠ Value.notImplemented ∧ Q (.bool (lexLt ns ms)) s from ⟨(fun x => nomatch x), h⟩⟩ hu
end
end HT
namespace L2
open PySem PySem.Spec PyProof.Rows
theorem UV {ns : List Int} : ∀ {us : List Value}, Vals (ns.map V.int) us → IntsAre us ns := by
 induction ns with
 | nil => intro us r; rw [List.map_nil] at r; cases r; exact .nil
 | cons n ns ih =>
   intro us r
   rw [List.map_cons] at r
   cases r with
   | cons r1 r2 =>
     obtain ⟨t, e⟩ := r1
     subst e
     exact .cons n t (ih r2)
section
variable {X : Cx} {e : Expr} {te : TE} {lo hi : Option Expr} {tl th : TO} {pos p2 : Pos}
end
end L2
namespace L2
open PySem PySem.Spec PyProof.Rows
def ixN (n : Nat) (i : Int) : Option Nat := if 0 ≤ i then (if i < n then some i.toNat else none) else if -(n : Int) ≤ i then some (i + n).toNat else none
def atI {α : Type} (xs : List α) (i : Int) : Option α := (ixN xs.length i).bind fun j => xs[j]?
theorem ixN_seq {n : Nat} {i : Int} {j : Nat} (h : ixN n i = some j) : seqIndex? i n = some j ∧ j < n ∧ -(n : Int) ≤ i ∧ i < n := by
 unfold ixN at h
 by_cases h0 : 0 ≤ i
 · rw [if_pos h0] at h
   by_cases h1 : i < n
   · rw [if_pos h1] at h
     have e : i.toNat = j := Option.some.inj h
     exact ⟨by rw [seqIndex_of h0 h1, e], by omega, by omega, h1⟩
   · rw [if_neg h1] at h; cases h
 · rw [if_neg h0] at h
   by_cases h1 : -(n : Int) ≤ i
   · rw [if_pos h1] at h
     have e : (i + n).toNat = j := Option.some.inj h
     exact ⟨by rw [seqIndex_neg (by omega) h1, e], by omega, h1, by omega⟩
   · rw [if_neg h1] at h; cases h
theorem atI_get {α : Type} {xs : List α} {i : Int} {v : α} (h : atI xs i = some v) : ∃ j, seqIndex? i xs.length = some j ∧ xs[j]? = some v ∧ j < xs.length ∧ -(xs.length : Int) ≤ i ∧ i < xs.length := by
 unfold atI at h
 cases e : ixN xs.length i with
 | none => rw [e] at h; cases h
 | some j =>
   rw [e] at h
   obtain ⟨h1, h2, h3, h4⟩ := ixN_seq e
   exact ⟨j, h1, h, h2, h3, h4⟩
theorem VA {α : Type} {xs : List α} {j : Nat} {v : α} (h : xs[j]? = some v) : atI xs (j : Int) = some v := by
 have hj : j < xs.length := (List.getElem?_eq_some_iff.mp h).1
 have e : ixN xs.length (j : Int) = some j := by
   unfold ixN
   rw [if_pos (by omega), if_pos (by omega)]; simp
 unfold atI; rw [e]; exact h
def PlainIx (b : Expr) : Prop := ∀ o i, subscripted b false o i = operate [o, i] (getItem o i)
def IxR (X : Cx) (r : R2) : Prop :=
 ∀ (value slice : Expr) (pins : List (Addr × Obj)) (s : Shared) (σ : St) (H : Hp) (x y : V) (v u : Value) (Q : VK), Inv X pins σ H s → RelV x v → RelV y u → r x y H Q →
   subscripted slice false v u = operate [v, u] (getItem v u) → wpAny (model X.prog X.w) X.A (subscriptTail value slice v u) (EP X pins σ Q) X.xe s
def MtR (X : Cx) (id : String) (r : V → List V → Hp → VK → Prop) : Prop :=
 ∀ (pins : List (Addr × Obj)) (s : Shared) (σ : St) (H : Hp) (x : V) (xs : List V) (v : Value) (us : List Value) (Q : VK), Inv X pins σ H s → RelV x v → Vals xs us → r x xs H Q →
   wpAny (model X.prog X.w) X.A (call (.builtin id) (v :: us)) (EP X pins σ Q) X.xe s
section
variable {X : Cx} {a b : Expr} {ta tb : TE} {pos : Pos}
theorem ZD {r : R2} (hr : IxR X r) (ha : PE X a ta) (hb : PE X b tb) (hs : PlainIx b) : PE X (.Subscript a b pos) (tOp r ta tb) := by
 intro pins s σ H Q I h
 exact Subscript_ (binT ha hb I h fun v u s2 x y H2 I2 rx ry q => hr a b pins s2 σ H2 x y v u Q I2 rx ry q (hs _ _))
def rIxL (K : W.Frag) : R2 := fun x y H Q => ∃ p xs i v, x = .ref p ∧ y = .int i ∧ SqL K H p xs ∧ atI xs i = some v ∧ Q v H
def rIxT (K : W.Frag) : R2 := fun x y H Q => ∃ p xs i v, x = .ref p ∧ y = .int i ∧ SqT K H p xs ∧ atI xs i = some v ∧ Q v H
theorem Yo : IxR X (rIxL X.K) := by
 intro value slice pins s σ H x y v u Q I rx ry h hs
 obtain ⟨p, xs, i, z, rfl, rfl, hq, he, q⟩ := h
 cases rx
 obtain ⟨t, rfl⟩ := ry
 obtain ⟨its, r, pl, hz⟩ := I.list hq
 obtain ⟨j, h1, h2, h3, h4, h5⟩ := atI_get he
 obtain ⟨w, ew, rw'⟩ := r.get h2
 have hl := r.length
 have hn := QC
 have fin : EP X pins σ Q w s := ⟨z, H, I, rw', q⟩
 by_cases h0 : 0 ≤ i
 · have hj : i.toNat = j := by
     rw [seqIndex_of h0 h5] at h1
     exact Option.some.inj h1
   exact item_listR pl.isList h0 (by omega) (by rw [hj]; simpa using ew) fin hs
 · have hj : (i + (its.toArray.size : Int)).toNat = j := by
     rw [seqIndex_neg (by omega) h4] at h1
     rw [List.size_toArray, ← hl]
     exact Option.some.inj h1
   exact subscriptTail_builtinR (x := w) pl.isList.typeIs slot_list_getitem.lookup
     (wpAny_getItem_list_neg (Q := fun r s' => r = w ∧ EP X pins σ Q r s') pl.isList (by omega) (by rw [List.size_toArray] <;> omega) (by omega) (by rw [hj]; simpa using ew) ⟨rfl, fin⟩) hs
theorem ZF : IxR X (rIxT X.K) := by
 intro value slice pins s σ H x y v u Q I rx ry h hs
 obtain ⟨p, xs, i, z, rfl, rfl, hq, he, q⟩ := h
 cases rx
 obtain ⟨t, rfl⟩ := ry
 obtain ⟨its, r, pl, hz⟩ := I.tuple hq
 obtain ⟨j, h1, h2, h3, h4, h5⟩ := atI_get he
 obtain ⟨w, ew, rw'⟩ := r.get h2
 have hl := r.length
 have hn := QC
 have fin : EP X pins σ Q w s := ⟨z, H, I, rw', q⟩
 exact subscriptTail_builtinR (x := w) pl.typeIs slot_tuple_getitem.lookup
   (getItem_tuple (j := j) (Q := fun r s' => r = w ∧ EP X pins σ Q r s') pl (by omega) (by omega) (by rw [List.size_toArray, ← hl]; exact h1) (by simpa using ew) ⟨rfl, fin⟩) hs
theorem XE : VC X (.builtin "len") (fun xs H Q => ∃ p ys, xs = [.ref p] ∧ (SqL X.K H p ys ∨ SqT X.K H p ys) ∧ Q (.int ys.length) H) := by
 intro pins s σ H xs us Q I r h
 obtain ⟨p, ys, rfl, hq, q⟩ := h
 obtain ⟨u, rfl, rx⟩ := VZ r
 cases rx
 have hn := QC
 rcases hq with hq | hq
 · obtain ⟨its, r', pl, hz⟩ := I.list hq
   have hlen := r'.length
   exact Calls.call_len_list pl.isList (by simp only [List.size_toArray] <;> omega) ⟨.int ys.length, H, I.tok _, ⟨s.toks + 1, by rw [List.size_toArray, hlen]⟩, q⟩
 · obtain ⟨its, r', pl, hz⟩ := I.tuple hq
   have hlen := r'.length
   exact len_tuple pl (by simp only [List.size_toArray] <;> omega) ⟨.int ys.length, H, I.tok _, ⟨s.toks + 1, by rw [List.size_toArray, hlen]⟩, q⟩
theorem QG : VC X (.type "list") (fun xs H Q => ∃ p ys, xs = [.ref p] ∧ (SqL X.K H p ys ∨ SqT X.K H p ys) ∧ ∀ l, H l = none → Q (.ref l) (upd H l (.lst ys))) := by
 intro pins s σ H xs us Q I r h
 obtain ⟨p, ys, rfl, hq, q⟩ := h
 obtain ⟨u, rfl, rx⟩ := VZ r
 cases rx
 have fin : ∀ (its : List Value), Vals ys its → ys.length ≤ sizeLine → ∀ (h' : Heap) (c' : Nat), (∀ b o', s.heap.get? b = some o' → h'.get? b = some o') →
     h'.get? s.heap.objs.size = some { cls := .type "list", dict := none, data := .seq its.toArray c', slots := #[] } → EP X pins σ Q (.ref s.heap.objs.size) { s with heap := h' } := fun its r' hz h' c' kp e =>
   ⟨.ref s.heap.objs.size, _, I.laid (t' := s.toks) kp (Nat.le_refl _) (show ObjOk X.prog X.w _ h' _ (.lst ys) from ⟨hz, its, c', r', e⟩), rfl, q _ (I.hok.fresh (Nat.le_refl _))⟩
 rcases hq with hq | hq
 · obtain ⟨its, r', pl, hz⟩ := I.list hq
   have hlen := r'.length
   obtain ⟨o, ho, hc, n, hd⟩ := pl.isList
   exact call_list_seq p (.inl rfl) ho hc hd (fun h' c' kp e => fin its r' hz h' c' kp e) (by simp only [List.size_toArray] <;> omega)
 · obtain ⟨its, r', pl, hz⟩ := I.tuple hq
   have hlen := r'.length
   obtain ⟨o, ho, hc, n, hd⟩ := pl
   exact call_list_seq p (.inr rfl) ho hc hd (fun h' c' kp e => fin its r' hz h' c' kp e) (by simp only [List.size_toArray] <;> omega)
theorem Rr : VC X (.type "tuple") (fun xs H Q => ∃ p ys, xs = [.ref p] ∧ ((SqL X.K H p ys ∧ ∀ l, H l = none → Q (.ref l) (upd H l (.tup ys))) ∨ (SqT X.K H p ys ∧ Q (.ref p) H))) := by
 intro pins s σ H xs us Q I r h
 obtain ⟨p, ys, rfl, h⟩ := h
 obtain ⟨u, rfl, rx⟩ := VZ r
 cases rx
 rcases h with ⟨hq, q⟩ | ⟨hq, q⟩
 · obtain ⟨its, r', pl, hz⟩ := I.list hq
   have hlen := r'.length
   refine call_tuple_list pl.isList (fun h' kp => ?_) (by simp only [List.size_toArray] <;> omega)
   have I1 : Inv X pins σ H { s with heap := h' } := I.kept (t' := s.toks) kp
   have I2 : Inv X pins σ (upd H h'.objs.size (.tup ys)) { s with heap := h'.push { cls := .type "tuple", data := .seq its.toArray } } :=
     I1.laid (t' := s.toks) (fun b o e => Heap.get?_push_of_some _ e) (Nat.le_refl _) (show ObjOk X.prog X.w _ _ _ (.tup ys) from ⟨hz, its, r', IsTup.new _ _⟩)
   exact ⟨.ref h'.objs.size, _, I2, rfl, q _ (I1.hok.fresh (Nat.le_refl _))⟩
 · obtain ⟨its, r', pl, hz⟩ := I.tuple hq
   exact call_tuple_same pl ⟨.ref p, H, I, rfl, q⟩
def tyV (K : W.Frag) (T : String) (x : V) (H : Hp) : Prop := match x with
 | .str _ => T = "str"
 | .int _ => T = "int"
 | .ref p => (T = "list" ∧ ∃ xs, SqL K H p xs) ∨ (T = "tuple" ∧ ∃ o, K.lookup p = some o ∧ o.cls = .type "tuple" ∧ o.dict = none) ∨
     (T = "dict" ∧ ((∃ kvs, H p = some (.dK kvs)) ∨ ∃ kvs, H p = some (.dT kvs))) ∨ (T = "set" ∧ ∃ S n, H p = some (.set S n))
 | _ => False
theorem tyV_is {pins : List (Addr × Obj)} {σ : St} {H : Hp} {s : Shared} {T : String} {x : V} {v : Value} (I : Inv X pins σ H s) (r : RelV x v) (ty : tyV X.K T x H) :
   s.TypeIs v T ∧ ∀ a, v = .ref a → ∃ ob, s.heap.get? a = some ob ∧ ob.dict = none := by
 cases x with
 | str z =>
   obtain ⟨t, rfl⟩ := r
   cases (show T = "str" from ty)
   exact ⟨typeIs_str s z t, fun _ e => nomatch e⟩
 | int i =>
   obtain ⟨t, rfl⟩ := r
   cases (show T = "int" from ty)
   exact ⟨typeIs_int s i t, fun _ e => nomatch e⟩
 | ref p =>
   cases r
   rcases ty with ⟨rfl, xs, hq⟩ | ⟨rfl, o, hk, hc, hd⟩ | ⟨rfl, hk⟩ | ⟨rfl, S, n, hk⟩
   · obtain ⟨its, _, pl, _⟩ := I.list hq
     refine ⟨pl.isList.typeIs, fun a e => ?_⟩
     cases e
     obtain ⟨o, n, e, c, hd, _⟩ := pl
     exact ⟨o, e, hd⟩
   · refine ⟨⟨o, I.kIn p o hk, hc⟩, fun a e => ?_⟩
     cases e
     exact ⟨o, I.kIn _ o hk, hd⟩
   · have z : ∃ o, s.heap.get? p = some o ∧ o.ExactDict := by
       rcases hk with ⟨kvs, hk⟩ | ⟨kvs, hk⟩
       · obtain ⟨_, _, _, _, o, _, _, e, ex, _⟩ := I.hok p _ hk
         exact ⟨o, e, ex⟩
       · obtain ⟨_, _, _, _, o, _, _, e, ex, _⟩ := I.hok p _ hk
         exact ⟨o, e, ex⟩
     obtain ⟨o, e, ex⟩ := z
     refine ⟨⟨o, e, ex.1⟩, fun a e2 => ?_⟩
     cases e2
     exact ⟨o, e, ex.2.1⟩
   · obtain ⟨o, _, _, _, e, ex, _⟩ := I.hok p _ hk
     refine ⟨⟨o, e, ex.1⟩, fun a e2 => ?_⟩
     cases e2
     exact ⟨o, e, ex.2.1⟩
 | _ => exact False.elim ty
def tBM0 (K : W.Frag) (T : String) (r : V → List V → Hp → VK → Prop) (to : TE) : TE := fun σ H Q => to σ H fun x H1 => tyV K T x H1 ∧ r x [] H1 Q
def tBM (K : W.Frag) (T : String) (r : V → List V → Hp → VK → Prop) (to : TE) (t : TA) : TE := fun σ H Q => to σ H fun x H1 => tyV K T x H1 ∧ t σ H1 fun xs H2 => r x xs H2 Q
variable {o e : Expr} {es : List Expr} {to : TE} {t : TA} {name : Str} {apos cpos : Pos} {T id : String} {r : V → List V → Hp → VK → Prop}
theorem pe_bm0 (pa : PlainAttrs T) (slot : Slot T name id) (hty : typeOf (.builtin id) = pure (.type "method_descriptor")) (hm : MtR X id r) (ho : PE X o to)
   (hbase : attributeBase o name X.env (eval o X.env) = eval o X.env := by rfl) (hline : (apos.endLine == cpos.line) = true := by rfl) : PE X (.Call (.Attribute o name apos) [] [] cpos) (tBM0 X.K T r to) := by
 intro pins s σ H Q I h
 refine wpAny_Call_method0_late hbase hline (thn (ho pins s σ H _ I h) fun v s1 ⟨x, H1, I1, r1, ty, q1⟩ => ?_)
 obtain ⟨h1, h2⟩ := tyV_is I1 r1 ty
 exact ⟨T, id, pa, slot, hty, h1, h2, Calls.callWith_builtin rfl (PySem.evalArgs_none (hm pins s1 σ H1 x [] v [] Q I1 r1 .nil q1))⟩
theorem VH (pa : PlainAttrs T) (slot : Slot T name id) (hty : typeOf (.builtin id) = pure (.type "method_descriptor")) (hm : MtR X id r) (ho : PE X o to) (ha : PA X (e :: es) t)
   (hbase : attributeBase o name X.env (eval o X.env) = eval o X.env := by rfl)
   (hfew : ((backTo cpos (starEach (e :: es) X.env)).all (fun x => !x.1) && (backToKw cpos (keywordEach [] X.env)).all (fun x => x.1.isSome)
     && decide ((e :: es).length + ([] : List Keyword).length + (if ([] : List Keyword).isEmpty then 0 else 1) < 30)) = true := by rfl)
   (hline : (apos.endLine == cpos.line) = true := by rfl) (hs : starEach (e :: es) X.env = (false, eval e X.env) :: starEach es X.env := by rfl) (hplain : (backTo cpos (starEach es X.env)).any (·.1) = false := by rfl) :
   PE X (.Call (.Attribute o name apos) (e :: es) [] cpos) (tBM X.K T r to t) := by
 intro pins s σ H Q I h
 refine wpAny_Call_method_late hbase hfew hline rfl (thn (ho pins s σ H _ I h) fun v s1 ⟨x, H1, I1, r1, ty, q1⟩ => ?_)
 obtain ⟨h1, h2⟩ := tyV_is I1 r1 ty
 refine ⟨T, id, pa, slot, hty, h1, h2, ?_⟩
 have hA := ha cpos pins s1 σ H1 _ I1 q1
 rw [hs] at hA ⊢
 refine Calls.callWith_builtin (by show (false || (backTo cpos (starEach es X.env)).any (·.1)) = false; rw [hplain] <;> rfl) (Calls.evalArgs_plain ?_)
 exact thn hA fun us s2 ⟨vs, H2, I2, r2, q2⟩ => hm pins s2 σ H2 x vs v us Q I2 r1 r2 q2
end
end L2
namespace L2
open PySem PySem.Spec PyProof.Rows
def MtM (X : Cx) (id : String) (r : V → List V → Hp → VK → Prop) : Prop :=
 ∀ (pins : List (Addr × Obj)) (s : Shared) (σ : St) (H : Hp) (x : V) (xs : List V) (v : Value) (us : List Value) (Q : VK), Inv X pins σ H s → RelV x v → Vals xs us → r x xs H Q →
   wpAny (model X.prog X.w) X.A (call (.builtin id) (v :: us)) (EP X pins σ Q) X.xe s
theorem Vals.one : ∀ {x : V} {us : List Value}, Vals [x] us → ∃ u, us = [u] ∧ RelV x u
 | _, _, .cons r .nil => ⟨_, rfl, r⟩
theorem Vals.two : ∀ {x y : V} {us : List Value}, Vals [x, y] us → ∃ u v, us = [u, v] ∧ RelV x u ∧ RelV y v
 | _, _, _, .cons r (.cons q .nil) => ⟨_, _, rfl, r, q⟩
theorem Vals.eraseIdx : ∀ {xs : List V} {us : List Value} (i : Nat), Vals xs us → Vals (xs.eraseIdx i) (us.eraseIdx i)
 | _, _, _, .nil => .nil
 | _, _, 0, .cons _ t => t
 | _, _, i + 1, .cons r t => .cons r (Vals.eraseIdx i t)
theorem RJ {α : Type} : ∀ (l : List α) (i : Nat), (l.eraseIdx i).length ≤ l.length
 | [], _ => Nat.le_refl _
 | _ :: _, 0 => Nat.le_succ _
 | _ :: r, i + 1 => Nat.succ_le_succ (RJ r i)
section
variable {X : Cx} {pins : List (Addr × Obj)} {σ : St} {H : Hp} {s : Shared} {l b : Addr} {xs ys zs : List V}
theorem Inv.lset {its its' : List Value} {n : Nat} {f : Array Value → Array Value} {t' : Nat} (I : Inv X pins σ H s) (hH : H l = some (.lst xs))
   (e : s.heap.get? l = some { cls := .type "list", data := .seq its.toArray n }) (hf : f its.toArray = its'.toArray) (hv : Vals ys its') (hz : ys.length ≤ sizeLine) :
   Inv X pins σ (upd H l (.lst ys)) { s with heap := s.heap.update l (Obj.mapSeq f), toks := t' } := by
 have q := PySem.IsL.update e f
 rw [hf] at q
 refine I.write (x := l) (e := l) (by rw [hH]; exact trivial) (.inl rfl) (fun b' u hb hu => (Heap.get?_update_other s.heap (Obj.mapSeq f) (Ne.symm hb)).trans hu) ⟨_, q⟩ ?_
 exact ⟨hz, its', _, hv, q⟩
theorem Inv.lnew {its : List Value} {t' : Nat} (I : Inv X pins σ H s) (hv : Vals ys its) (hz : ys.length ≤ sizeLine) :
   Inv X pins σ (upd H s.heap.objs.size (.lst ys)) { s with heap := s.heap.push { cls := .type "list", data := .seq its.toArray }, toks := t' } :=
 I.laid (fun _ _ q => Heap.get?_push_of_some _ q) (Nat.le_refl _) ⟨hz, its, 0, hv, Heap.get?_push_size _ rfl⟩
theorem Inv.fresh (I : Inv X pins σ H s) : H s.heap.objs.size = none := I.hok.fresh (Nat.le_refl _)
theorem Inv.lstM (I : Inv X pins σ H s) (hH : H l = some (.lst xs)) : xs.length ≤ sizeLine ∧ ∃ (its : List Value) (n : Nat), Vals xs its ∧ xs.length = its.length ∧ s.heap.get? l = some { cls := .type "list", data := .seq its.toArray n } := by
 obtain ⟨z, its, n, r, e⟩ := I.hok l _ hH
 exact ⟨z, its, n, r, r.length, e⟩
theorem notLongL {n : Nat} (h : n ≤ sizeLine) : Builtin.List.listTooLong n = false := by
 unfold Builtin.List.listTooLong
 exact decide_eq_false (by omega)
end
section
variable {X : Cx}
def rAppend : V → List V → Hp → VK → Prop := fun x vs H Q => ∃ l xs y, x = .ref l ∧ vs = [y] ∧ H l = some (.lst xs) ∧ xs.length < sizeLine ∧ Q .non (upd H l (.lst (xs ++ [y])))
theorem Vj : MtM X "list.append" rAppend := by
 intro pins s σ H x vs v us Q I rx rv h
 obtain ⟨l, xs, y, rfl, rfl, hH, hz, q⟩ := h
 cases rx
 obtain ⟨u, rfl, ru⟩ := rv.one
 obtain ⟨z, its, n, r, hl, e⟩ := I.lstM hH
 refine call_meets F.slot_list_append ⟨_, e, rfl⟩ F.entry_list_append (F.args_list_append_2 _ _) (PySem.list_append l its.toArray n u (by rw [List.size_toArray]; omega)) ⟨e, ?_⟩
 refine ⟨.non, _, I.lset (its' := its ++ [u]) hH e (by simp) (r.append (.cons ru .nil)) ?_, rfl, q⟩
 rw [List.length_append, List.length_singleton]
 omega
def rExtend : V → List V → Hp → VK → Prop := fun x vs H Q => ∃ l b xs zs, x = .ref l ∧ vs = [.ref b] ∧ H l = some (.lst xs) ∧ H b = some (.lst zs) ∧ xs.length + zs.length ≤ sizeLine ∧ Q .non (upd H l (.lst (xs ++ zs)))
theorem mt_extend : MtM X "list.extend" rExtend := by
 intro pins s σ H x vs v us Q I rx rv h
 obtain ⟨l, b, xs, zs, rfl, rfl, hH, hB, hz, q⟩ := h
 cases rx
 obtain ⟨u, rfl, ru⟩ := rv.one
 cases ru
 obtain ⟨z, its, n, r, hl, e⟩ := I.lstM hH
 obtain ⟨z2, its2, n2, r2, hl2, e2⟩ := I.lstM hB
 have hsz : its.toArray.size + its2.toArray.size ≤ sizeLine := by rw [List.size_toArray, List.size_toArray]; omega
 have hlong : ¬ (!its.toArray.isEmpty && Builtin.List.listTooLong (its.toArray.size + its2.toArray.size)) = true := by
   rw [notLongL hsz, Bool.and_false]
   exact Bool.false_ne_true
 refine call_meets F.slot_list_extend ⟨_, e, rfl⟩ F.entry_list_extend (F.args_list_extend_2 _ _)
   (AutoSeq1.list_extend_list_list_0 l its.toArray n b its2.toArray n2 hlong (by rw [List.size_toArray]; omega) (by omega)) ⟨e, e2, ?_⟩
 refine ⟨.non, _, I.lset (its' := its ++ its2) hH e (by simp) (r.append r2) ?_, rfl, q⟩
 rw [List.length_append]
 omega
def rPopAt : V → List V → Hp → VK → Prop := fun x vs H Q => ∃ l xs i k y, x = .ref l ∧ vs = [.int i] ∧ H l = some (.lst xs) ∧ -(2 ^ 63) ≤ i ∧ i < 2 ^ 63 ∧ seqIndex? i xs.length = some k ∧ xs[k]? = some y ∧ Q y (upd H l (.lst (xs.eraseIdx k)))
theorem mt_popAt : MtM X "list.pop" rPopAt := by
 intro pins s σ H x vs v us Q I rx rv h
 obtain ⟨l, xs, i, k, y, rfl, rfl, hH, h1, h2, hk, hy, q⟩ := h
 cases rx
 obtain ⟨u, rfl, ru⟩ := rv.one
 obtain ⟨t, rfl⟩ := ru
 obtain ⟨z, its, n, r, hl, e⟩ := I.lstM hH
 obtain ⟨w, hw, rw'⟩ := r.get hy
 refine call_meets F.slot_list_pop ⟨_, e, rfl⟩ F.entry_list_pop (F.args_list_pop_2 _ _)
   (MeetsSeq.list_pop_at l its.toArray n i t k w (fitsIndex_both h1 h2) (by rw [List.size_toArray, ← hl]; exact hk) (by rw [← Array.getElem?_toList]; exact hw) (by rw [List.size_toArray]; omega)) ⟨e, ?_⟩
 refine ⟨y, _, I.lset (its' := its.eraseIdx k) hH e ?_ (r.eraseIdx k) ?_, rw', q⟩
 · show its.toArray.eraseIdxIfInBounds k = (its.eraseIdx k).toArray
   rw [List.eraseIdxIfInBounds_toArray]
 · have := RJ xs k
   omega
def rCat : R2 := fun x y H Q => ∃ l b xs zs, x = .ref l ∧ y = .ref b ∧ H l = some (.lst xs) ∧ H b = some (.lst zs) ∧ xs.length + zs.length ≤ sizeLine ∧ ∀ p, H p = none → Q (.ref p) (upd H p (.lst (xs ++ zs)))
theorem op_cat : OpR X (binaryOp .Add) rCat := by
 intro pins s σ H x y v u Q I rx ry h
 obtain ⟨l, b, xs, zs, rfl, rfl, hH, hB, hz, q⟩ := h
 cases rx
 cases ry
 obtain ⟨z, its, n, r, hl, e⟩ := I.lstM hH
 obtain ⟨z2, its2, n2, r2, hl2, e2⟩ := I.lstM hB
 refine PySem.P.add_list e e2 ?_ (by rw [List.size_toArray, List.size_toArray]; omega)
 have ea : its.toArray ++ its2.toArray = (its ++ its2).toArray := by simp
 rw [ea]
 exact ⟨.ref _, _, I.lnew (t' := s.toks) (r.append r2) (by rw [List.length_append]; omega), rfl, q _ I.fresh⟩
end
section
variable {prog : Program} {w : World} {A : Around} {E : Value → Shared → Prop} {s : Shared}
end
section
variable {X : Cx}
end
end L2
namespace Att
open PySem PySem.W PySem.Calls PyProof.Rows
theorem TZ {P : Params} {h : Heap} : ∀ (ns : List Int) (vs : List Value), WellAll P h vs (ns.map WData.int) → IntsAre vs ns := by
 intro ns
 induction ns with
 | nil =>
   intro vs w
   rw [List.map_nil] at w
   cases w
   exact .nil
 | cons n ns ih =>
   intro vs w
   rw [List.map_cons] at w
   cases w with
   | cons a b =>
     cases a
     exact .cons _ _ (ih _ b)
theorem script_of {l : OpenLaw} {n : Nat} (hn : l.most = some n) {P : Params} {h : Heap} {args : List WData} {vals : List Value}
   (hpre : l.row.toRowW.claim.pre args = true) (hwl : WellAll P h vals args) :
   ∃ a vs ns, vals = [Value.ref a] ∧ args = [WData.list (ns.map WData.int)] ∧ h.get? a = some { cls := .type "list", data := .seq vs.toArray } ∧ IntsAre vs ns ∧ ns.length ≤ n := by
 have hsh : WShape.hasAll [] args [.list .int] = true := (pre_splitW hpre).1
 have hc : l.pre.holds [] { args := args } = true := (pre_splitW hpre).2
 obtain ⟨d, r, rfl, h1, h2⟩ := hasAllW_cons hsh
 obtain rfl := hasAllW_nil h2
 obtain ⟨xs, rfl, h3⟩ := hasW_list h1
 obtain ⟨ns, rfl⟩ := items_int h3
 have hlen : ns.length ≤ n := by
   unfold OpenLaw.pre at hc
   have h4 : (WTm.not (.lt (.lit (.int (n : Int))) (.len (.arg 0)))).holds [] { args := [.list (ns.map .int)] } = true := by
     have h4 := (holds_andW hc).1
     rw [hn] at h4
     exact h4
   have h5 := condW_of h4 (w_not (w_lt w_lit (w_len_list (w_arg rfl))))
   rw [List.length_map] at h5
   refine Nat.le_of_not_lt fun q => ?_
   have q' : (n : Int) < ((ns.length : Nat) : Int) := by omega
   first
     | (rw [decide_eq_true q'] at h5; exact absurd h5 (by decide))
     | (simp at h5; omega)
 cases hwl with
 | cons w1 w2 =>
   cases w2
   cases w1 with
   | list ho hall => exact ⟨_, _, ns, rfl, rfl, ho, TZ ns _ hall, hlen⟩
theorem post_true (l : OpenLaw) (args : List WData) : l.row.toRowW.claim.post args (.bool true) args = true :=
 postW_of (r := l.row.toRowW) (X := (true == true))
   (show WShape.has [] (.bool true) .bool = true by first | rfl | decide | simp [WShape.has, WShape.arms, WShape.armsAll])
   (show (WTm.eq .res (.lit (.bool true))).value [] { args := args, res := some (.bool true), after := args } = some (.bool (true == true)) from w_eq_bool (w_res rfl) w_lit) rfl
theorem attach_call {l : OpenLaw} {n : Nat} {q : Program} {loose : List Str} {XP : (Str → Option Value) → Heap → Prop} {YP : World → Heap → Prop} {d : DefRec}
   (hn : l.most = some n) (hdf : d.params.defaults = [])
   (call : ∀ (w : World) (s₀ s₁ : Shared) (mg mb : Str → Option Value) (fa : Addr) (o : Obj) (pm cd doc : Value) (a : Addr) (vs : List Value) (ns : List Int),
     Ground q loose [] XP w s₀ mg mb s₁.heap → YP w s₁.heap →
     s₁.heap.get? fa = some o → o.data = .func (docDef d.name d.params d.body d.scope pm cd doc) → s₁.heap.CodeRec cd d.name → mg d.name = some (.ref fa) →
     s₁.heap.get? a = some { cls := .type "list", data := .seq vs.toArray } → IntsAre vs ns → ns.length ≤ n → s₁.gens = #[] →
     codeAny (model l.prog w) callerA (.call (.ref fa) ⟨[.ref a], []⟩) (fun r s' => r = .ok (.ret (.bool true)) ∧ OldK s₁.heap s'.heap ∧ s'.os = s₁.os ∧ AllBare s'.gens) s₁) :
   WalkO q loose XP YP l.row.toRowW d [] (fun f vs => PySem.call f vs) := by
 intro w s₀ s₁ mg mb G Y fa o pm cd doc dV kV ho hd hcd hD hmg hg args vals as hpre hlay hrd hwl hlo
 obtain rfl : dV = .none := Dflts.none hD hdf
 obtain rfl : kV = .none := Dflts.noKw hD
 obtain ⟨a, vs, ns, rfl, rfl, hobj, hints, hlen⟩ := script_of hn hpre hwl
 refine enter_call (codeAny_mono (call w s₀ s₁ mg mb fa o pm cd doc a vs ns G Y ho (fd_plain hd) hcd hmg hobj hints hlen hg) fun r s' hq => ?_)
 obtain ⟨rfl, h2, h3, h4⟩ := hq
 exact ⟨.inl ⟨.bool true, .bool true, [], rfl, fun _ => rfl, .bool true, post_true l _, fun _ => ⟨List.Pairwise.nil, fun _ hm => (nomatch hm)⟩⟩, h2, h3, h4⟩
section
variable {prog : Program} {w : World} {A : Around} {E : Value → Shared → Prop} {s : Shared} {K : Frag}
end
end Att
namespace L2
open PySem PySem.Spec PyProof.Rows
theorem Tp : ∀ {vs : List Value} {ns : List Int}, IntsAre vs ns → Vals (ns.map V.int) vs
 | _, _, .nil => .nil
 | _, _, .cons n t h => .cons ⟨t, rfl⟩ (Tp h)
def Only (H : Hp) : Prop := ∀ b, H b = none ∨ ∃ o xs, H b = some (.frz o (.lst xs))
theorem law_call {P : Program} {w : World} {K : W.Frag} {mg mb : Str → Option Value} {CX : CXT} {k : Nat} {fa a : Addr} {fd : FuncData} {x : Str} {sp : Sp} {s₁ : Shared} {vs : List Value} {ns : List Int}
   (KX : K.In s₁.heap) (hns : s₁.heap.Ns mainGlobals mg) (hb : s₁.heap.Ns builtinsNs mb) (hbb : ∀ x : Str, x ≠ "__name__" → mb x = bootBuiltins x) (hlim : s₁.heap.NoLimit) (hg : s₁.gens = #[])
   (ha : s₁.heap.get? a = some { cls := .type "list", data := .seq vs.toArray }) (hi : IntsAre vs ns) (hl : ns.length ≤ sizeLine) (hr : Room k callerA)
   (F : ∀ base : Heap, K.In base → base.Ns mainGlobals mg → FnOk P w K mg base CX k fa fd [x] sp) (hbind : ∀ (s : Shared) (u : Value), BindsTo s fd ⟨[u], []⟩ [(x, u)])
   (hsp : ∀ H : Hp, Only H → SqL K H a (ns.map V.int) → sp [.ref a] H (fun v _ => v = .bl true) fun _ _ _ => False)
   (hCX : ∀ H e s', CX [] H s₁ (fun _ _ _ => False) e s' → False) :
   codeAny (model P w) callerA (.call (.ref fa) ⟨[.ref a], []⟩) (fun r s' => r = .ok (.ret (.bool true)) ∧ OldK s₁.heap s'.heap ∧ s'.os = s₁.os ∧ AllBare s'.gens) s₁ := by
 have rv := Tp hi
 have lenV := hi.length
 have core : ∀ H : Hp, Only H → SqL K H a (ns.map V.int) → HOk P w H s₁.heap → (∀ b, H b ≠ none → b = a) → (H a ≠ none → K.lookup a = none) →
     codeAny (model P w) callerA (.call (.ref fa) ⟨[.ref a], []⟩) (fun r s' => r = .ok (.ret (.bool true)) ∧ OldK s₁.heap s'.heap ∧ s'.os = s₁.os ∧ AllBare s'.gens) s₁ := by
   intro H hO hS hok hA hK
   have base_of : ∀ {b : Addr} {o : Obj}, s₁.heap.get? b = some o → H b = none → (hidT s₁.heap H).get? b = some o := fun e n => hidT_get e n
   have noA : ∀ {b : Addr} {o : Obj} {es : Array DictEntry} {ep : Nat}, s₁.heap.get? b = some o → o.data = .dict es ep → H b = none := fun {b o es ep} e d => by
     cases q : H b with
     | none => rfl
     | some u =>
       have e' : b = a := hA b (by rw [q]; simp)
       subst e'
       rw [ha] at e; cases e
       have d' : Data.seq vs.toArray _ = Data.dict es ep := d
       cases d'
   have nsK : ∀ {b : Addr} {m : Str → Option Value}, s₁.heap.Ns b m → (hidT s₁.heap H).Ns b m := fun {b m} ⟨o, es, ep, e, d, r⟩ => ⟨o, es, ep, base_of e (noA e d), d, r⟩
   have hKb : K.In (hidT s₁.heap H) := fun b o e => base_of (KX b o e) (by
     cases q : H b with
     | none => rfl
     | some u =>
       have e' : b = a := hA b (by rw [q]; simp)
       subst e'
       rw [hK (by rw [q]; simp)] at e; cases e)
   have hM : Mod K mg (hidT s₁.heap H) := ⟨hKb, nsK hns, ⟨mb, nsK hb, hbb⟩, let ⟨mc, h1, h2⟩ := hlim; ⟨mc, nsK h1, h2⟩⟩
   have e0 : Env0 P w K mg (hidT s₁.heap H) callerA [] s₁ H := ⟨rfl, hM, fun b o e => of_hidT e, Nat.le_of_eq (hidT_size _ _), trivial, fun b hb => absurd (show b ∈ ([] : List Addr) from hb) (by simp), hok, .of_eq hg⟩
   refine codeAny_mono ((F _ hKb (nsK hns)).run callerA [] s₁ H ⟨[.ref a], []⟩ [.ref a] [.ref a] _ _ hr e0 (hbind s₁ (.ref a)) (.cons rfl .nil) (hsp H hO hS)) fun r s' h => ?_
   cases r with
   | error e => exact (hCX H e s' h).elim
   | ok fl =>
     cases fl with
     | next => exact False.elim h
     | brk => exact False.elim h
     | cont => exact False.elim h
     | ret u =>
       obtain ⟨v, H', os, bare, un, hok', r', q⟩ := h
       have q' : v = .bl true := q
       subst q'
       obtain rfl : u = Value.bool true := r'
       refine ⟨rfl, OldK.of_keep fun b o e => ?_, os, bare⟩
       cases q : H b with
       | none => exact un.keep b o e q (by intro z; exact absurd (show b ∈ ([] : List Addr) from z) (by simp)) (by simp)
       | some u =>
         rcases hO b with z | ⟨ob, xs, z⟩
         · rw [q] at z; cases z
         · have z2 := un.frzs b ob _ z
           obtain ⟨e1, _⟩ := hok b _ z
           obtain ⟨e2, _⟩ := hok' b _ z2
           rw [e] at e1; cases e1
           exact e2
 cases hk : K.lookup a with
 | some o =>
   have e := KX a o hk
   rw [ha] at e
   cases e
   refine core (fun _ => none) (fun _ => .inl rfl) (.inr ⟨_, vs.toArray, _, hk, rfl, rfl, rfl, by rw [List.size_toArray, lenV]; exact hl, by simpa using rv⟩) (fun b u z => by have z' : (none : Option HO) = some u := z; cases z') (fun b z => absurd rfl z) fun z => absurd rfl z
 | none =>
   refine core (fun b => if b = a then some (.frz { cls := .type "list", data := .seq vs.toArray } (.lst (ns.map V.int))) else none) (fun b => ?_) (.inl (.inr ⟨{ cls := .type "list", data := .seq vs.toArray }, if_pos rfl⟩)) (fun b u z => ?_) (fun b z => ?_) fun _ => hk
   · by_cases hb : b = a
     · exact .inr ⟨_, _, if_pos hb⟩
     · exact .inl (if_neg hb)
   · by_cases hb : b = a
     · have z' := (if_pos hb).symm.trans z
       cases z'
       subst hb
       exact ⟨ha, by rw [List.length_map]; exact hl, vs, _, rv, ha⟩
     · have z' := (if_neg hb).symm.trans z
       cases z'
   · by_cases hb : b = a
     · exact hb
     · exact absurd (if_neg hb) z
end L2
namespace L2
open PySem PySem.Spec PyProof.Rows
abbrev KOf {K : W.Frag} {h : Heap} (_ : K.In h) : W.Frag := K
theorem walk_of {l : W.OpenLaw} {n k : Nat} {q : Program} {loose : List Str} {XP : (Str → Option Value) → Heap → Prop} {YP : World → Heap → Prop} {d : DefRec} {K : Params → W.Frag} {CX : World → CXT} {sp : World → Sp} {x : Str}
   (hn : l.most = some n) (hn2 : n ≤ sizeLine) (hdf : d.params.defaults = []) (hr : Room k callerA)
   (hY : ∀ (w : World) (h : Heap), YP w h → (K w.params).In h)
   (F : ∀ (w : World) (mg : Str → Option Value) (fa : Addr) (h : Heap), (K w.params).In h → h.Ns mainGlobals mg → mg d.name = some (.ref fa) →
     ∃ fd : FuncData, (∀ (s : Shared) (u : Value), BindsTo s fd ⟨[u], []⟩ [(x, u)]) ∧
       ∀ base : Heap, (K w.params).In base → base.Ns mainGlobals mg → FnOk l.prog w (K w.params) mg base (CX w) k fa fd [x] (sp w))
   (hsp : ∀ (w : World) (H : Hp) (a : Addr) (ns : List Int), ns.length ≤ n → Only H → SqL (K w.params) H a (ns.map V.int) → sp w [.ref a] H (fun v _ => v = .bl true) fun _ _ _ => False)
   (hCX : ∀ (w : World) (H : Hp) (s : Shared) (e : Value) (s' : Shared), CX w [] H s (fun _ _ _ => False) e s' → False) :
   W.WalkO q loose XP YP l.row.toRowW d [] (fun f vs => PySem.call f vs) := by
 refine Att.attach_call hn hdf fun w s₀ s₁ mg mb fa o pm cd doc a vs ns G Y ho hd hcd hmg hobj hints hlen hg => ?_
 have KX := hY w _ Y
 obtain ⟨fd, hb, hF⟩ := F w mg fa _ KX G.T.g hmg
 exact law_call KX G.T.g G.T.b G.T.builtins G.T.nolimit hg hobj hints (Nat.le_trans hlen hn2) hr hF hb (fun H hO hS => hsp w H a ns hlen hO hS) fun H e s' => hCX w H s₁ e s'
end L2
namespace L2
open PySem PySem.Spec PyProof.Rows
def Yb (s : Stmt) (j : Nat) : Stmt := match s with
 | .ClassDef _ _ _ body _ _ _ _ _ _ _ => body.getD j (.Pass ⟨0, 0, 0, 0⟩)
 | _ => .Pass ⟨0, 0, 0, 0⟩
def Zt (s : Stmt) : Arguments := match s with
 | .FunctionDef _ a _ _ _ _ _ _ _ _ => a
 | _ => { posonlyargs := [], args := [], vararg := none, kwonlyargs := [], kw_defaults := [], kwarg := none, defaults := [] }
def Zr (s : Stmt) : List Stmt := match s with
 | .FunctionDef _ _ b _ _ _ _ _ _ _ => b
 | _ => []
def Zd (s : Stmt) : Scope := match s with
 | .FunctionDef _ _ _ _ _ _ sc _ _ _ => sc
 | _ => { kind := .function, names := [], isGenerator := false, isCoroutine := false }
abbrev E0 : XK := fun _ _ _ => False
structure Fun (K : W.Frag) (x qual : Str) (st : Stmt) (f : Addr) (fd : FuncData) : Prop where
 ex : ∃ (oc : Value) (od : Option Addr) (kV doc pm : Value) (an : Option Addr) (cdv ct : Value) (osl : Array (Option Value)),
   fd = W.fnOf x qual (Zt st) (Zr st) (Zd st) .none kV doc pm an cdv ct ∧ K.lookup f = some ⟨oc, od, .func fd, osl⟩ ∧ W.codeIn K cdv qual = true
 kp : W.keepIn K (.ref f) = true
section
variable {P : Program} {w : World} {K : W.Frag} {mg : Str → Option Value} {base : Heap}
theorem Fun.binds {x qual : Str} {st : Stmt} {f : Addr} {fd : FuncData} {ps : List Str} (F : Fun K x qual st f fd)
   (h : ∀ (kV doc pm : Value) (an : Option Addr) (cdv ct : Value) (us : List Value), us.length = ps.length → bindArgs (W.fnOf x qual (Zt st) (Zr st) (Zd st) .none kV doc pm an cdv ct) ⟨us, []⟩ = pure (ps.zip us)) : Binds K fd ps [] := by
 obtain ⟨oc, od, kV, doc, pm, an, cdv, ct, osl, rfl, lk, hcd⟩ := F.ex
 exact .all (h kV doc pm an cdv ct)
theorem Zj {x qual : Str} {st : Stmt} {f : Addr} {oc : Value} {od an : Option Addr} {osl : Array (Option Value)} {kV doc pm cdv ct : Value} (l : K.lookup f = some ⟨oc, od, .func (W.fnOf x qual (Zt st) (Zr st) (Zd st) .none kV doc pm an cdv ct), osl⟩)
   (c : W.codeIn K cdv qual = true) (k : W.keepIn K (.ref f) = true) : Fun K x qual st f (W.fnOf x qual (Zt st) (Zr st) (Zd st) .none kV doc pm an cdv ct) := ⟨⟨oc, od, kV, doc, pm, an, cdv, ct, osl, rfl, l, c⟩, k⟩
end
theorem YL {A : Around} {k : Nat} (hr : Room k A) : A.units + 1 < cLine := Nat.lt_of_le_of_lt (Nat.add_le_add_left (by decide : 1 ≤ 64) _) hr.units
theorem UA {n : Nat} (h : n ≤ 1000) : n < sizeLine := Nat.lt_of_le_of_lt h (by decide)
section
variable {X : Cx}
theorem pv (i : Nat) {x : Str} {pos : Pos} (hN : X.N[i]? = some x := by rfl) (hv : Vis X.env.scope x := by first | exact Or.inl rfl | exact Or.inr (Or.inl rfl) | exact Or.inr (Or.inr rfl)) (hd : (x == ("__debug__" : Str)) = false := by decide)
   (hcd : (x == ("__classdict__" : Str)) = false := by decide) : PE X (.Name x pos) (tVar i) := pe_var hN hv hd hcd
theorem call_lenD : VC X (.builtin "len") (fun xs H Q => ∃ a kvs, xs = [V.ref a] ∧ H a = some (.dK kvs) ∧ Q (.int kvs.length) H) := by
 intro pins s σ H xs us Q I r h
 obtain ⟨a, kvs, rfl, ha, q⟩ := h
 obtain ⟨u, rfl, ru⟩ := VZ r
 cases ru
 exact d_len I (.inl ha) fun t s' I' => ⟨.int kvs.length, H, I', ⟨t, rfl⟩, q⟩
end
theorem iteF {A B : Prop} (h : B) : if false = true then A else B := by
 rw [if_neg Bool.false_ne_true]
 exact h
theorem iteT {A B : Prop} (h : A) : if true = true then A else B := by
 rw [if_pos rfl]
 exact h
theorem ite2 {c A B : Prop} [Decidable c] (h1 : c → A) (h2 : ¬ c → B) : if c then A else B := by
 by_cases h : c
 · rw [if_pos h]
   exact h1 h
 · rw [if_neg h]
   exact h2 h
theorem iteNS {c A B : Prop} [Decidable c] (hc : c) (h : B) : if (!decide c) = true then A else B := by
 rw [decide_eq_true hc]
 exact iteF h
def Same (H H' : Hp) : Prop := ∀ b o, H b = some o → H' b = some o
theorem Same.refl (H : Hp) : Same H H := fun _ _ h => h
theorem Same.trans {H H1 H2 : Hp} (a : Same H H1) (b : Same H1 H2) : Same H H2 := fun c o h => b c o (a c o h)
theorem Same.free {H H' : Hp} (e : Same H H') {l : Addr} (h : H' l = Option.none) : H l = Option.none := by
 cases q : H l with
 | none => rfl
 | some o =>
   rw [e l o q] at h
   cases h
theorem Same.seq {K : W.Frag} {H H' : Hp} {a : Addr} {xs : List V} (e : Same H H') (h : SqL K H a xs) : SqL K H' a xs := by
 rcases h with (h | ⟨o, h⟩) | h
 · exact .inl (.inl (e _ _ h))
 · exact .inl (.inr ⟨o, e _ _ h⟩)
 · exact .inr h
section
variable {κ : Type} [DecidableEq κ]
end
end L2
end
section
namespace Mir
structure Al (ν : Type) where
 name : ν
 tick : Int
 step : Option Int
deriving DecidableEq
abbrev Dct (α : Type) := List (Int × α)
section
variable {α : Type}
def get (t : Dct α) (n : Int) : Option (α) := (t.find? fun p => decide (p.1 = n)).map (·.2)
def put (t : Dct α) (n : Int) (a : α) : Dct α := if t.any (fun p => decide (p.1 = n)) then t.map (fun p => if p.1 = n then (p.1, a) else p) else t ++ [(n, a)]
def drop (t : Dct α) (n : Int) : Dct α := t.filter fun p => !decide (p.1 = n)
abbrev keys (t : Dct α) : List Int := t.map (·.1)
theorem get_nil (n : Int) : get ([] : Dct α) n = none := rfl
theorem Yi (p : Int × α) (t : Dct α) (n : Int) : get (p :: t) n = if p.1 = n then some p.2 else get t n := by
 unfold get
 rw [List.find?_cons]
 by_cases h : p.1 = n <;> simp [h]
theorem XC {t : Dct α} {n : Int} {a : α} (h : get t n = some a) : (n, a) ∈ t := by
 induction t with
 | nil => cases h
 | cons p t ih =>
   rw [Yi] at h
   by_cases e : p.1 = n
   · rw [if_pos e] at h
     cases h
     subst e
     exact List.mem_cons_self
   · rw [if_neg e] at h
     exact List.mem_cons_of_mem _ (ih h)
theorem get_none {t : Dct α} {n : Int} : get t n = none ↔ n ∉ keys t := by
 induction t with
 | nil => simp [get_nil]
 | cons p t ih =>
   rw [Yi]
   by_cases e : p.1 = n
   · simp [e]
   · rw [if_neg e, ih]
     simp only [keys, List.map_cons, List.mem_cons, not_or]
     exact ⟨fun h => ⟨fun z => e z.symm, h⟩, fun h => h.2⟩
theorem VW {t : Dct α} (nd : (keys t).Nodup) {n : Int} {a : α} (h : (n, a) ∈ t) : get t n = some a := by
 induction t with
 | nil => cases h
 | cons p t ih =>
   rw [Yi]
   have nd' : p.1 ∉ keys t ∧ (keys t).Nodup := List.nodup_cons.mp nd
   rcases List.mem_cons.mp h with e | h
   · cases e
     rw [if_pos rfl]
   · have ne : ¬ p.1 = n := fun e => nd'.1 (by rw [e]; exact List.mem_map.mpr ⟨_, h, rfl⟩)
     rw [if_neg ne]
     exact ih nd'.2 h
theorem Si {t : Dct α} {n : Int} : t.any (fun p => decide (p.1 = n)) = (get t n).isSome := by
 induction t with
 | nil => rfl
 | cons p t ih =>
   rw [List.any_cons, ih, Yi]
   by_cases e : p.1 = n <;> simp [e]
theorem ZB (t : Dct α) (n m : Int) (a : α) : get (put t n a) m = if m = n then some a else get t m := by
 unfold put
 rw [Si]
 by_cases h : (get t n).isSome = true
 · rw [if_pos h]
   induction t with
   | nil => cases h
   | cons p t ih =>
     rw [List.map_cons, Yi, Yi]
     rw [Yi] at h
     by_cases e : p.1 = n
     · rw [if_pos e]
       by_cases em : m = n
       · subst em
         simp [e]
       · have ne : ¬ p.1 = m := fun z => em (z ▸ e)
         have ne2 : ¬ n = m := fun z => em z.symm
         simp only [e, em, if_false, ne2]
         have tail : ∀ l : Dct α, get (l.map fun p => if p.1 = n then (p.1, a) else p) m = get l m := by
           intro l
           induction l with
           | nil => rfl
           | cons q l il =>
             rw [List.map_cons, Yi, Yi, il]
             by_cases eq : q.1 = n
             · simp [eq, ne2]
             · simp [eq]
         simpa [e, ne2] using tail t
     · rw [if_neg e] at h
       simp only [e, if_false]
       by_cases em : p.1 = m
       · have ne : ¬ m = n := fun z => e (em.trans z)
         simp [em, ne]
       · rw [if_neg em, if_neg em]
         exact ih h
 · rw [if_neg h]
   have hn : get t n = none := by simpa using h
   induction t with
   | nil =>
     show get [(n, a)] m = _
     rw [Yi]
     by_cases em : m = n
     · simp [em]
     · have : ¬ n = m := fun z => em z.symm
       simp [em, this]
   | cons p t ih =>
     rw [List.cons_append, Yi, Yi]
     rw [Yi] at hn h
     by_cases e : p.1 = n
     · rw [if_pos e] at hn
       cases hn
     · rw [if_neg e] at hn h
       by_cases em : p.1 = m
       · have ne : ¬ m = n := fun z => e (em.trans z)
         simp [em, ne]
       · rw [if_neg em, if_neg em]
         exact ih h hn
theorem Zx (t : Dct α) (n m : Int) : get (drop t n) m = if m = n then none else get t m := by
 unfold drop
 induction t with
 | nil => simp [get_nil]
 | cons p t ih =>
   rw [List.filter_cons, Yi]
   by_cases e : p.1 = n
   · simp only [e, decide_true, Bool.not_true, Bool.false_eq_true, if_false]
     rw [ih]
     by_cases em : m = n
     · simp [em]
     · have : ¬ n = m := fun z => em z.symm
       simp [em, this]
   · simp only [e, decide_false, Bool.not_false, if_true]
     rw [Yi, ih]
     by_cases em : p.1 = m
     · have : ¬ m = n := fun z => e (em.trans z)
       simp [em, this]
     · simp [em]
theorem VU {t : Dct α} {n : Int} (a : α) (h : get t n = none) : keys (put t n a) = keys t ++ [n] := by
 unfold put
 rw [Si, h]
 simp [keys]
theorem Tg {t : Dct α} {n : Int} (a : α) (h : (get t n).isSome = true) : keys (put t n a) = keys t := by
 unfold put
 rw [Si, if_pos h]
 simp only [keys, List.map_map]
 apply List.map_congr_left
 intro p _
 by_cases e : p.1 = n <;> simp [e]
theorem ZY {t : Dct α} (nd : (keys t).Nodup) (n : Int) (a : α) : (keys (put t n a)).Nodup := by
 by_cases h : (get t n).isSome = true
 · rw [Tg a h]
   exact nd
 · have hn : get t n = none := by simpa using h
   rw [VU a hn, List.nodup_append]
   refine ⟨nd, by simp, fun x hx y hy e => ?_⟩
   have ey : y = n := by simpa using hy
   subst ey
   exact get_none.mp hn (e ▸ hx)
theorem ZN {t : Dct α} (nd : (keys t).Nodup) (n : Int) : (keys (drop t n)).Nodup := nd.sublist (List.Sublist.map _ List.filter_sublist)
end
abbrev Fn (ν : Type) := Int → Option (Al ν)
section
variable {ν : Type}
def fput (f : Fn ν) (n : Int) (o : Option (Al ν)) : Fn ν := fun m => if m = n then o else f m
theorem YE (f : Fn ν) (n : Int) (o : Option (Al ν)) : fput f n o n = o := by simp [fput]
theorem XD (f : Fn ν) {n m : Int} (o : Option (Al ν)) (h : m ≠ n) : fput f n o m = f m := by simp [fput, h]
def after (a : Al ν) : Option (Al ν) := a.step.map fun k => { a with tick := a.tick + k }
def Ahead (t n u m : Int) : Prop := t < u ∨ (t = u ∧ n ≤ m)
theorem Ahead.antisymm {t n u m : Int} (h : Ahead t n u m) (h' : Ahead u m t n) : t = u ∧ n = m := by
 unfold Ahead at h h'
 omega
structure Next (goal : Int) (f : Fn ν) (n : Int) (a : Al ν) : Prop where
 there : f n = some a
 due : a.tick ≤ goal
 first : ∀ m b, f m = some b → Ahead a.tick n b.tick m
theorem Next.unique {goal : Int} {f : Fn ν} {n m : Int} {a b : Al ν} (x : Next goal f n a) (y : Next goal f m b) : n = m ∧ a = b := by
 obtain ⟨_, e⟩ := (x.first m b y.there).antisymm (y.first n a x.there)
 subst e
 have z := x.there
 rw [y.there] at z
 cases z
 exact ⟨rfl, rfl⟩
inductive Runs (goal : Int) : Fn ν → List (Int × Int × ν) → Fn ν → Prop where
 | stop {f : Fn ν} : (∀ n a, f n = some a → goal < a.tick) → Runs goal f [] f
 | ring {f g : Fn ν} {n : Int} {a : Al ν} {l : List (Int × Int × ν)} : Next goal f n a → Runs goal (fput f n (after a)) l g → Runs goal f ((a.tick, n, a.name) :: l) g
theorem Runs.unique {goal : Int} {f : Fn ν} {l l' : List (Int × Int × ν)} {g g' : Fn ν} (x : Runs goal f l g) : Runs goal f l' g' → l = l' ∧ g = g' := by
 induction x generalizing l' g' with
 | stop h =>
   intro y
   cases y with
   | stop _ => exact ⟨rfl, rfl⟩
   | ring nx _ => exact absurd nx.due (Int.not_le.mpr (h _ _ nx.there))
 | ring nx r ih =>
   intro y
   cases y with
   | stop h => exact absurd nx.due (Int.not_le.mpr (h _ _ nx.there))
   | ring ny r' =>
     obtain ⟨rfl, rfl⟩ := nx.unique ny
     obtain ⟨rfl, rfl⟩ := ih r'
     exact ⟨rfl, rfl⟩
theorem Runs.end {goal : Int} {f g : Fn ν} {l : List (Int × Int × ν)} (x : Runs goal f l g) : ∀ n a, g n = some a → goal < a.tick := by
 induction x with
 | stop h => exact h
 | ring _ _ ih => exact ih
end
section
variable {ν : Type}
def cnt (goal : Int) (a : Al ν) : Nat := if a.tick ≤ goal then (match a.step with | none => 1 | some k => ((goal - a.tick) / k + 1).toNat) else 0
def cntO (goal : Int) : Option (Al ν) → Nat
 | none => 0
 | some a => cnt goal a
theorem cnt_after {goal : Int} {a : Al ν} (h : a.tick ≤ goal) (good : ∀ k, a.step = some k → 0 < k) : cntO goal (after a) + 1 = cnt goal a := by
 unfold after
 cases hs : a.step with
 | none => simp [cntO, cnt, h, hs]
 | some k =>
   have hk := good k hs
   simp only [Option.map_some, cntO, cnt, h, hs, if_true]
   have q0 : 0 ≤ (goal - a.tick) / k := Int.ediv_nonneg (by omega) (by omega)
   by_cases hd : a.tick + k ≤ goal
   · rw [if_pos hd]
     have e : (goal - a.tick) / k = (goal - (a.tick + k)) / k + 1 := by
       have : goal - a.tick = (goal - (a.tick + k)) + 1 * k := by omega
       rw [this, Int.add_mul_ediv_right _ _ (by omega)]
     have q1 : 0 ≤ (goal - (a.tick + k)) / k := Int.ediv_nonneg (by omega) (by omega)
     rw [e]
     omega
   · rw [if_neg hd]
     have e : (goal - a.tick) / k = 0 := Int.ediv_eq_zero_of_lt (by omega) (by omega)
     rw [e]
     rfl
theorem fput_fput (f : Fn ν) (n : Int) (o o' : Option (Al ν)) : fput (fput f n o) n o' = fput f n o' := by
 funext m
 unfold fput
 by_cases h : m = n <;> simp [h]
end
end Mir
end
section
namespace L2
open PySem PySem.Spec PyProof.Rows
theorem ObjOk.there {P : Program} {w : World} {H : Hp} {h : Heap} {a : Addr} {o : HO} (x : ObjOk P w H h a o) : ∃ u, h.get? a = some u := by
 cases o with
 | lst xs => obtain ⟨_, _, _, _, e⟩ := x; exact ⟨_, e⟩
 | tup xs => obtain ⟨_, _, _, _, e, _⟩ := x; exact ⟨_, e⟩
 | dK kvs => obtain ⟨_, _, _, _, o, _, _, e, _⟩ := x; exact ⟨_, e⟩
 | dT kvs => obtain ⟨_, _, _, _, o, _, _, e, _⟩ := x; exact ⟨_, e⟩
 | set S n => obtain ⟨o, _, _, _, e, _⟩ := x; exact ⟨_, e⟩
 | ins C dx fs => obtain ⟨_, _, _, e, _⟩ := x; exact ⟨_, e⟩
 | own y => obtain ⟨_, e⟩ := x; exact ⟨_, e⟩
 | xd fs => obtain ⟨_, ⟨_, _, _, e, _⟩, _⟩ := x; exact ⟨_, e⟩
 | rng lo hi => obtain ⟨_, _, _, e⟩ := x; exact ⟨_, e⟩
 | frz ob u => obtain ⟨e, _⟩ := x; exact ⟨_, e⟩
 | tbl ps => exact ⟨_, (show h.get? a = some _ from x)⟩
 | met f y => exact ⟨_, (show h.get? a = some _ from x)⟩
 | ext φ => obtain ⟨_, ⟨_, e⟩, _⟩ := x; exact ⟨_, e⟩
theorem HOk.off {P : Program} {w : World} {H : Hp} {h : Heap} {a : Addr} (x : HOk P w H h) (e : h.get? a = none) : H a = none := by
 cases q : H a with
 | none => rfl
 | some u =>
   obtain ⟨v, z⟩ := (x a u q).there
   rw [e] at z
   cases z
def Thrown (h : Heap) (ea T : Addr) (cls a0 : Value) : Prop :=
 ∃ oe vs oT ts, h.get? ea = some oe ∧ (oe.cls = cls ∧ vs[0]? = some a0) ∧ oe.data = .fields vs ∧ vs[1]? = some (.ref T) ∧ T ≠ ea ∧ h.get? T = some oT ∧ oT.data = .fields ts ∧ ts[3]? = some .none
theorem Thrown.traced {h base : Heap} {ea T : Addr} {cls a0 : Value} (x : Thrown h ea T cls a0) (n : base.get? T = none) : h.TracedW base ea cls a0 :=
 let ⟨oe, vs, oT, ts, h1, h2, h3, h4, h5, h6⟩ := x; ⟨oe, vs, T, oT, ts, h1, h2, h3, h4, n, h5, h6⟩
theorem Rs {h base : Heap} {ea : Addr} {cls a0 : Value} (x : h.TracedW base ea cls a0) : ∃ T, base.get? T = none ∧ Thrown h ea T cls a0 :=
 let ⟨oe, vs, T, oT, ts, h1, h2, h3, h4, n, h5, h6⟩ := x; ⟨T, n, oe, vs, oT, ts, h1, h2, h3, h4, h5, h6⟩
def FrOk (fs : List Addr) (h : Heap) : Prop := ∀ b ∈ fs, ∃ o, h.get? b = some o ∧ ∀ vs, o.data ≠ .fields vs
theorem FrOk.no {fs : List Addr} {h : Heap} {b : Addr} {o : Obj} {vs : Array Value} (F : FrOk fs h) (e : h.get? b = some o) (d : o.data = .fields vs) : b ∉ fs := fun hb => by
 obtain ⟨o', e', n⟩ := F b hb
 rw [e] at e'
 cases e'
 exact n vs d
theorem Thrown.offT {fs : List Addr} {h : Heap} {ea T : Addr} {cls a0 : Value} (x : Thrown h ea T cls a0) (F : FrOk fs h) : T ∉ fs := by
 obtain ⟨oe, vs, oT, ts, h1, h2, h3, h4, h5, h6, h7, _⟩ := x
 exact F.no h6 h7
theorem FrOk.up {fs : List Addr} {h h' : Heap} (F : FrOk fs h) (u : h.UpToSlots h') : FrOk fs h' := fun b hb => by
 obtain ⟨o, e, n⟩ := F b hb
 obtain ⟨sl, e'⟩ := u b o e n
 exact ⟨_, e', n⟩
theorem FrOk.keeps {fs : List Addr} {h h' : Heap} (F : FrOk fs h) (k : ∀ b o, h.get? b = some o → h'.get? b = some o) : FrOk fs h' := fun b hb => by
 obtain ⟨o, e, n⟩ := F b hb
 exact ⟨o, k b o e, n⟩
theorem Inv.frOk {X : Cx} {pins : List (Addr × Obj)} {σ : St} {H : Hp} {s : Shared} (I : Inv X pins σ H s) : FrOk (frs X.stack) s.heap := fun b hb => (I.stack.mem hb).2
structure Flung (P : Program) (w : World) (fs : List Addr) (H H' : Hp) (h h' : Heap) (ea T : Addr) (cls a0 : Value) : Prop where
 un : Un fs [] H H' h h'
 hok : HOk P w H' h'
 ne : h.get? ea = none
 nT : h.get? T = none
 fe : H' ea = none
 fT : H' T = none
 thr : Thrown h' ea T cls a0
section
variable {X : Cx} {pins : List (Addr × Obj)} {σ : St} {H H' : Hp} {s s' : Shared} {h h1 h2 : Heap} {ea T : Addr} {cls a0 : Value} {vs : List Value} {fs : List Addr} {P : Program} {w : World}
theorem flung_made (I : Inv X pins σ H s) (hx : Heap.MadeExcOf s.heap h1 ea cls vs) (st : (W.hideAll s.heap (frs X.stack)).StaysIn h2) (up : h1.UpToSlots h2)
   (tr : h2.TracedW (W.hideAll s.heap (frs X.stack)) ea cls a0) : ∃ T, Flung X.prog X.w (frs X.stack) H H s.heap h2 ea T cls a0 := by
 obtain ⟨T, nT, th⟩ := Rs tr
 have fr2 : FrOk (frs X.stack) h2 := (I.frOk.keeps hx.keeps).up up
 have keep : ∀ b o, s.heap.get? b = some o → b ∉ frs X.stack → h2.get? b = some o := fun b o e n => st b o (W.hideAll_get _ e n)
 have slot : ∀ b o, s.heap.get? b = some o → b ∈ frs X.stack → ∃ sl, h2.get? b = some { o with slots := sl } := fun b o e hb => by
   obtain ⟨o', e', n⟩ := I.frOk b hb
   rw [e] at e'
   cases e'
   exact up b o (hx.keeps b o e) n
 have nT' : s.heap.get? T = none := by
   cases q : s.heap.get? T with
   | none => rfl
   | some o =>
     rw [W.hideAll_get _ q (th.offT fr2)] at nT
     cases nT
 refine ⟨T, ⟨fun b o e _ hb _ => keep b o e hb, fun b o e _ hb _ => slot b o e hb, fun b o e n _ => n, fun b o e _ => ?_, fun b xs q => q, fun b o u q => q, fun b ps q => ⟨#[], by rw [q]; simp⟩⟩, fun a o e => ?_, hx.new, nT', I.hok.off hx.new, I.hok.off nT', th⟩
 · by_cases hb : b ∈ frs X.stack
   · obtain ⟨sl, q⟩ := slot b o e hb
     exact ⟨_, q⟩
   · exact ⟨o, keep b o e hb⟩
 · refine (I.hok a o e).stay (fun b u hb q => keep b u q fun m => ?_) (fun _ q => q) fun _ _ q => q
   have z := I.stkFree b m
   rcases hb with hb | hb
   · rw [hb, e] at z
     cases z
   · rw [hb] at z
     cases z
theorem SQ (F : Flung P w fs H H' h h1 ea T cls a0) (fr : FrOk fs h1) (ff : ∀ b ∈ fs, H' b = none) (st : (W.hideAll h1 (ea :: T :: fs)).StaysIn h2) (up : h1.UpToSlots h2)
   (tr : h2.TracedW (W.hideAll h1 (ea :: T :: fs)) ea cls a0) : ∃ T', Flung P w fs H H' h h2 ea T' cls a0 := by
 obtain ⟨T', nT', th⟩ := Rs tr
 have fr2 : FrOk fs h2 := fr.up up
 have keep : ∀ b o, h1.get? b = some o → b ≠ ea → b ≠ T → b ∉ fs → h2.get? b = some o := fun b o e n1 n2 n3 => st b o (W.hideAll_get _ e fun m => by
   rcases List.mem_cons.mp m with z | m
   · exact n1 z
   · rcases List.mem_cons.mp m with z | m
     · exact n2 z
     · exact n3 m)
 have nE : ∀ b o, h.get? b = some o → b ≠ ea := fun b o e z => by rw [z, F.ne] at e; cases e
 have nTT : ∀ b o, h.get? b = some o → b ≠ T := fun b o e z => by rw [z, F.nT] at e; cases e
 have slot : ∀ b o, h1.get? b = some o → b ∈ fs → ∃ sl, h2.get? b = some { o with slots := sl } := fun b o e hb => by
   obtain ⟨o', e', n⟩ := fr b hb
   rw [e] at e'
   cases e'
   exact up b o e n
 have old : ∀ o, h1.get? T' = some o → T' = T := fun o e => by
   apply Classical.byContradiction
   intro n
   have ne : T' ≠ ea := by
     obtain ⟨_, _, _, _, _, _, _, _, h5, _⟩ := th
     exact h5
   rw [W.hideAll_get _ e (fun m => by
     rcases List.mem_cons.mp m with z | m
     · exact ne z
     · rcases List.mem_cons.mp m with z | m
       · exact n z
       · exact th.offT fr2 m)] at nT'
   cases nT'
 refine ⟨T', ⟨fun b o e n hb hx => keep b o (F.un.keep b o e n hb hx) (nE b o e) (nTT b o e) hb, fun b o e n hb hx => ?_, F.un.free, fun b o e hx => ?_, F.un.tups, F.un.frzs, F.un.tbls⟩, fun a o e => ?_, F.ne, ?_, F.fe, ?_, th⟩
 · obtain ⟨sl, e1⟩ := F.un.slot b o e n hb hx
   obtain ⟨sl', e2⟩ := slot b _ e1 hb
   exact ⟨sl', e2⟩
 · obtain ⟨o', e1⟩ := F.un.there b o e hx
   by_cases hb : b ∈ fs
   · obtain ⟨sl, q⟩ := slot b o' e1 hb
     exact ⟨_, q⟩
   · exact ⟨o', keep b o' e1 (nE b o e) (nTT b o e) hb⟩
 · have off : ∀ b, H' b ≠ none → b ≠ ea ∧ b ≠ T ∧ b ∉ fs := fun b n => ⟨fun z => n (by rw [z]; exact F.fe), fun z => n (by rw [z]; exact F.fT), fun z => n (ff b z)⟩
   refine (F.hok a o e).stay (fun b u hb q => ?_) (fun _ q => q) fun _ _ q => q
   have nb : H' b ≠ none := by
     rcases hb with hb | hb
     · rw [hb, e]
       intro z
       cases z
     · rw [hb]
       intro z
       cases z
   exact keep b u q (off b nb).1 (off b nb).2.1 (off b nb).2.2
 · cases q : h.get? T' with
   | none => rfl
   | some o =>
     obtain ⟨o', e1⟩ := F.un.there T' o q (by simp)
     have z := old o' e1
     rw [z, F.nT] at q
     cases q
 · cases q : H' T' with
   | none => rfl
   | some u =>
     obtain ⟨o', e1⟩ := (F.hok T' u q).there
     have z := old o' e1
     rw [z, F.fT] at q
     cases q
theorem Inv.flung (I : Inv X pins σ H s) (F : Flung X.prog X.w (frs X.stack) H H' s.heap s'.heap ea T cls a0) (ho : s'.os = s.os) (hb : AllBare s'.gens) : Inv X pins σ H' s' :=
 I.call' ho F.un F.hok hb fun b z => absurd z (by simp)
def CXe (P : Program) (w : World) : CXT := fun outer H s E e s' =>
 ∃ ea T cls a0 H', e = .ref ea ∧ s'.os = s.os ∧ AllBare s'.gens ∧ Flung P w (frs outer) H H' s.heap s'.heap ea T cls a0 ∧ E cls none H'
theorem CXe.no {outer : List Env} {e : Value} (h : CXe P w outer H s E0 e s') : False := by
 obtain ⟨_, _, _, _, _, _, _, _, _, q⟩ := h
 exact q
theorem Inv.hid (I : Inv X pins σ H s) {as : List Addr} (hs : ∀ b ∈ frs X.stack, b ∈ as) : s.heap.FunFrames (W.hideAll s.heap as) X.stack :=
 W.funFrames_hide I.stack fun env he a ha => hs a (List.mem_filterMap.mpr ⟨env, he, ha⟩)
theorem leave_flung {M : Model} {A : Around} {Q : Unit → Shared → Prop} {E' : Value → Shared → Prop} (I : Inv X pins σ H s) (hst : X.stack = X.env :: X.outer) (hfr : X.env.frame = some X.env.locals) (ho : s'.os = s.os) (hb : AllBare s'.gens)
   (F : Flung X.prog X.w (frs X.stack) H H' s.heap s'.heap ea T cls a0) (hA : A.frames = some X.stack)
   (k : ∀ h2 T', Flung X.prog X.w (frs X.stack) H H' s.heap h2 ea T' cls a0 → Q () { s' with heap := h2 }) : wpAny M A (leaving X.env (.ref ea)) Q E' s' := by
 have J := I.flung F ho hb
 refine wpAny_leaves_onW (base := W.hideAll s'.heap (ea :: T :: frs X.stack)) (L := X.env.locals) (by rw [hA, hst]) hfr ⟨fun b o e => W.of_hideAll _ e, W.hideAll_none _ (List.mem_cons_self), ?_, F.thr.traced (W.hideAll_none _ (by simp))⟩ fun h2 fl up => ?_
 · rw [← hst]
   exact J.hid fun b m => List.mem_cons_of_mem _ (List.mem_cons_of_mem _ m)
 · obtain ⟨a1, a2, a3, a4⟩ := fl
   obtain ⟨T', F'⟩ := SQ F J.frOk J.stkFree a1 up a4
   exact k h2 T' F'
theorem leave_made {M : Model} {A : Around} {Q : Unit → Shared → Prop} {E' : Value → Shared → Prop} {tk : Nat} (I : Inv X pins σ H s) (hst : X.stack = X.env :: X.outer) (hfr : X.env.frame = some X.env.locals)
   (hx : Heap.MadeExcOf s.heap h1 ea cls vs) (hA : A.frames = some X.stack)
   (k : ∀ h2 T' a0, Flung X.prog X.w (frs X.stack) H H s.heap h2 ea T' cls a0 → Q () { s with heap := h2, toks := tk }) : wpAny M A (leaving X.env (.ref ea)) Q E' { s with heap := h1, toks := tk } := by
 refine wpAny_leaves_madeW (base := W.hideAll s.heap (frs X.stack)) (h := s.heap) (L := X.env.locals) (by rw [hA, hst]) hfr (fun b o e => W.of_hideAll _ e) ?_ hx fun h2 t fl tup nt up => ?_
 · rw [← hst]
   exact I.hid fun b m => m
 · obtain ⟨a1, a2, a3, a4⟩ := fl
   obtain ⟨T', F'⟩ := flung_made I hx a1 up a4
   exact k h2 T' _ F'
theorem cxe_of {E : XK} (I : Inv X pins σ H s) (hex : X.ex = []) (ho : s'.os = s.os) (hb : AllBare s'.gens) (F : Flung X.prog X.w (frs X.stack) H H' s.heap s'.heap ea T cls a0) (hE : E cls none H') :
   CXe X.prog X.w X.outer X.H₀ X.s₀ E (.ref ea) s' := by
 have J := I.flung F ho hb
 have new : ∀ b, s.heap.get? b = none → X.s₀.heap.get? b = none := fun b e => by
   cases q : X.s₀.heap.get? b with
   | none => rfl
   | some o =>
     obtain ⟨o', e'⟩ := I.base.there b o q (by rw [hex]; simp)
     rw [e] at e'
     cases e'
 have u := J.base
 rw [hex] at u
 exact ⟨ea, T, cls, a0, H', rfl, J.os, J.bare, ⟨u, J.hok, new ea F.ne, new T F.nT, F.fe, F.fT, F.thr⟩, hE⟩
end
section
variable {P : Program} {w : World} {K : W.Frag} {mg : Str → Option Value} {base : Heap} {N : List Str} {qual : Str} {scope : Scope} {f : Addr} {cd : Value} {A : Around} {outer : List Env} {s : Shared} {H : Hp} {E : XK}
theorem Ul : Uz (CXe P w) (cxOf (CXe P w) P w K mg base N qual scope f cd A outer s H E) E := by
 intro pins σ H1 s1 e s' I c
 obtain ⟨ea, T, cls, a0, H', rfl, ho, hb, F, hE⟩ := c
 exact leave_flung (E' := fun e' s'' => CXe P w outer H s E e' s'') I rfl rfl ho hb F I.ok.frames fun h2 T' F' => cxe_of (s' := { s' with heap := h2 }) I rfl ho hb F' hE
theorem ZE {X : Cx} : Uz (CXe P w) X E0 := fun _ _ _ _ _ _ _ h => (CXe.no h).elim
end
def Rz (X : Cx) (E : XK) : Prop := ∀ (pins : List (Addr × Obj)) (σ : St) (H : Hp) (s : Shared) (h1 : Heap) (ea : Addr) (cls : Value) (vs : List Value) (tk : Nat), Inv X pins σ H s → Heap.MadeExcOf s.heap h1 ea cls vs → E cls none H → X.xe (.ref ea) { s with heap := h1, toks := tk }
theorem TJ {P : Program} {w : World} {K : W.Frag} {mg : Str → Option Value} {base : Heap} {N : List Str} {qual : Str} {scope : Scope} {f : Addr} {cd : Value} {A : Around} {outer : List Env} {s : Shared} {H : Hp} {E : XK} :
   Rz (cxOf (CXe P w) P w K mg base N qual scope f cd A outer s H E) E := by
 intro pins σ H1 s1 h1 ea cls vs tk I hx hE
 exact leave_made (E' := fun e' s'' => CXe P w outer H s E e' s'') I rfl rfl hx I.ok.frames fun h2 T' a0 F' => cxe_of (s' := { s1 with heap := h2, toks := tk }) I rfl rfl I.bare F' hE
def bmV : List Value := [.type "ValueError", .type "Exception", .type "BaseException", .type "object"]
theorem exc_obj {K : W.Frag} {h : Heap} {C : Addr} {bmB : List Value} {newId : String} (x : K.In h) (q : W.excIn K C bmB newId = true) :
   ∃ bm N nm qn bs hdct sn sub ab col dd k0 k1 k2 k3 k5 mN, h.get? C = some (excClassObj nm qn C N bs bm hdct sn sub ab col dd k0 k1 k2 k3 k5 newId) ∧ h.Ns N mN ∧ mN "__init__" = none ∧ OwnTail h bmB bm := by
 unfold W.excIn at q
 split at q
 · rename_i dd cd sl look
   split at q
   · rename_i C' tl y0 y1 y2 y3 nn y5 em es
     simp only [Bool.and_eq_true, beq_iff_eq, Bool.not_eq_true'] at q
     obtain ⟨⟨⟨⟨⟨rfl, rfl⟩, nodel⟩, tail⟩, okn⟩, noinit⟩ := q
     obtain ⟨nm, bs, mro, ns, qn, hdct, sn, sub, ab, col, del⟩ := cd
     dsimp only at em nodel okn noinit
     subst em nodel
     have slots : sl = #[y0, y1, y2, y3, some (.builtin nn), y5] := by
       obtain ⟨l⟩ := sl
       simp only at es
       rw [es]
     subst slots
     exact ⟨tl, ns, nm, qn, bs, hdct, sn, sub, ab, col, dd, y0, y1, y2, y3, y5, _, x _ _ look, .of_isNs (W.isNs_of_in x okn), W.nsMap_none_of_in x okn noinit, W.tail_of_in x tail⟩
   · cases q
 · cases q
def tRaise (E : XK) (C : Addr) (t : TA) : TS := fun _ σ H => t σ H fun vs H1 => vs.length ≤ sizeLine ∧ E (.ref C) none H1
theorem XW {X : Cx} {E : XK} {x : Str} {C : Addr} {np cpos pos : Pos} {e : Expr} {es : List Expr} {t : TA} (hz : Rz X E) (hc : X.calm = true) (hg : Gl X x) (hm : X.mg x = some (.ref C)) (hq : W.excIn X.K C bmV "ValueError.__new__" = true)
   (ha : PA X (e :: es) t) (hdb : (x == ("__debug__" : Str)) = false := by decide) (he : starEach (e :: es) X.env = (false, eval e X.env) :: starEach es X.env := by rfl) (hpl : (backTo cpos (starEach es X.env)).any (·.1) = false := by rfl) :
   PS X (.Raise (some (.Call (.Name x np) (e :: es) [] cpos)) none pos) (tRaise E C t) := by
 intro pins s σ H D I h
 have O := fun (hp : Heap) (k : X.K.In hp) => exc_obj k hq
 obtain ⟨tl, N, nm, q, bs, hdct, sn, sub, ab, col, dd, k0, k1, k2, k3, k5, mN, hC, hN, hni, T⟩ := O X.base I.ok.mod.kin
 refine wpAny_Raise_call_subT (C := C) (nm := nm) (q := q) (N := N) (bs := bs) (bm := tl) (hdct := hdct) (sn := sn) (sub := sub) (ab := ab) (col := col) (dd := dd) (k0 := k0) (k1 := k1) (k2 := k2) (k3 := k3) (k5 := k5) (mN := mN)
   F.excBase_ValueError (T.hasType F.excBase_ValueError.hasBase) (I.ok.hd hc) (by rw [he]; show (false || (backTo cpos (starEach es X.env)).any (·.1)) = false; rw [hpl]; rfl) hni (UG I hg hm ⟨rfl, ?_⟩ hdb)
 have ha' := ha cpos pins s σ H _ I h
 rw [he] at ha' ⊢
 refine Calls.evalArgs_plain (thn ha' fun us s1 ⟨vs, H1, I1, r, hl, hE⟩ => ⟨rfl, ?_, I1.bk _ _ hC, hN.keeps I1.bk, T.keeps I1.bk, fun h' ea hmade => ?_⟩)
 · show us.length ≤ sizeLine
   rw [← r.length]
   exact hl
 · exact hz pins σ H1 s1 h' ea _ _ s1.toks I1 hmade hE
section
variable {P : Program} {w : World} {K : W.Frag} {mg : Str → Option Value} {base : Heap}
theorem Fun.okE {x qual : Str} {st : Stmt} {f : Addr} {fd : FuncData} {N ps : List Str} {k : Nat} {sp : Sp} (F : Fun K x qual st f fd) (S : FnScope N ps (Zd st)) (len : ∀ vs H Q E, sp vs H Q E → vs.length = ps.length)
   (hbody : ∀ (cdv : Value) (A : Around) (outer : List Env) (s : Shared) (H : Hp) (vs : List V) (Q : VK) (E : XK), Room k (A.deeper (envOfC qual (Zd st) s.heap.objs.size f cdv)) → sp vs H Q E →
     ∃ t, PSs (cxOf (CXe P w) P w K mg base N qual (Zd st) f cdv A outer s H E) (Zr st) t ∧ t { nx := fun _ H' => Q .non H', rt := Q } (start N vs) H) : FnOk P w K mg base (CXe P w) (k + 1) f fd ps sp := by
 obtain ⟨oc, od, kV, doc, pm, an, cdv, ct, osl, rfl, lk, hcd⟩ := F.ex
 refine fn_of lk hcd S len fun A outer s H vs Q E hr hsp => ?_
 exact hbody cdv A outer s H vs Q E hr hsp
theorem Fun.okN {x qual : Str} {st : Stmt} {f : Addr} {fd : FuncData} {N ps : List Str} {k : Nat} {sp : Sp} (F : Fun K x qual st f fd) (S : FnScope N ps (Zd st)) (len : ∀ vs H Q E, sp vs H Q E → vs.length = ps.length)
   (hbody : ∀ (cdv : Value) (A : Around) (outer : List Env) (s : Shared) (H : Hp) (vs : List V) (Q : VK) (E : XK), Room k (A.deeper (envOfC qual (Zd st) s.heap.objs.size f cdv)) → sp vs H Q E →
     ∃ t, PSs (cxOf (CXe P w) P w K mg base N qual (Zd st) f cdv A outer s H E).nox (Zr st) t ∧ t { nx := fun _ H' => Q .non H', rt := Q } (start N vs) H) : FnOk P w K mg base (CXe P w) (k + 1) f fd ps sp :=
 F.okE S len fun cdv A outer s H vs Q E hr hsp => by
   obtain ⟨t, h, q⟩ := hbody cdv A outer s H vs Q E hr hsp
   exact ⟨t, h.nox, q⟩
end
theorem PS.nox {X : Cx} {st : Stmt} {t : TS} (h : PS X.nox st t) : PS X st t := fun pins s σ H D I hw =>
 wpAny_mono (h pins s σ H D (I.wish _) hw) (fun f s' q => q.unwish) fun _ _ z => z.elim
abbrev XS := St → Value → Hp → Prop
abbrev TEx := St → Hp → VK → XS → Prop
abbrev TSx := Ends → XS → St → Hp → Prop
def XP (X : Cx) (pins : List (Addr × Obj)) (E : XS) (e : Value) (s' : Shared) : Prop :=
 ∃ σ H s ea T cls a0 H', e = .ref ea ∧ Inv X pins σ H s ∧ s'.os = s.os ∧ AllBare s'.gens ∧ Flung X.prog X.w (frs X.stack) H H' s.heap s'.heap ea T cls a0 ∧ E σ cls H'
def PEx (X : Cx) (e : Expr) (t : TEx) : Prop :=
 ∀ (pins : List (Addr × Obj)) (s : Shared) (σ : St) (H : Hp) (Q : VK) (E : XS), Inv X pins σ H s → t σ H Q E → wpAny (model X.prog X.w) X.A (eval e X.env) (EP X pins σ Q) (XP X pins E) s
def PSx (X : Cx) (st : Stmt) (t : TSx) : Prop :=
 ∀ (pins : List (Addr × Obj)) (s : Shared) (σ : St) (H : Hp) (D : Ends) (E : XS), Inv X pins σ H s → t D E σ H → wpAny (model X.prog X.w) X.A (exec st X.env) (SP X pins D) (XP X pins E) s
def PSxs (X : Cx) (st : List Stmt) (t : TSx) : Prop :=
 ∀ (pins : List (Addr × Obj)) (s : Shared) (σ : St) (H : Hp) (D : Ends) (E : XS), Inv X pins σ H s → t D E σ H → wpAny (model X.prog X.w) X.A (execs st X.env) (SP X pins D) (XP X pins E) s
section
variable {X : Cx} {k : Nat} {f C : Addr} {fd : FuncData} {ps : List Str} {sp : Sp} {dvs : List V} {ds : List Value} {x m : Str} {p pos apos : Pos} {e o : Expr} {es : List Expr} {ta : TE} {t : TA}
theorem run_fnx {pins : List (Addr × Obj)} {σ : St} {H : Hp} {s : Shared} {Q : VK} {E : XS} {us : List Value} {vs : List V} (F : FnOk X.prog X.w X.K X.mg X.base (CXe X.prog X.w) k f fd ps sp) (hr : Room k X.A) (hb : Binds X.K fd ps ds) (hd : Vals dvs ds)
   (I : Inv X pins σ H s) (r : Vals vs us) (h : sp (vs ++ dvs) H Q fun cls _ H2 => E σ cls H2) : wpAny (model X.prog X.w) X.A (call (.ref f) us) (EP X pins σ Q) (XP X pins E) s := by
 have r2 : Vals (vs ++ dvs) (us ++ ds) := r.append hd
 have hl : (us ++ ds).length = ps.length := by rw [← r2.length]; exact F.len _ _ _ _ h
 refine wpAny_call (codeAny_mono (F.run X.A X.stack s H ⟨us, []⟩ (us ++ ds) (vs ++ dvs) Q _ hr I.env0 (hb s us I.kIn hl) r2 h) fun r s' hq => ?_)
 cases r with
 | error e =>
   obtain ⟨ea, T, cls, a0, H', rfl, ho, hg, F', hE⟩ := hq
   exact ⟨σ, H, s, ea, T, cls, a0, H', rfl, I, ho, hg, F', hE⟩
 | ok fl =>
   cases fl with
   | ret u => exact I.after hq
   | next => exact False.elim hq
   | brk => exact False.elim hq
   | cont => exact False.elim hq
def xCall (sp : Sp) (dvs : List V) (t : TA) : TEx := fun σ H Q E => t σ H fun vs H1 => sp (vs ++ dvs) H1 Q fun cls _ H2 => E σ cls H2
theorem UC (F : FnOk X.prog X.w X.K X.mg X.base (CXe X.prog X.w) k f fd ps sp) (hr : Room k X.A) (hg : Gl X x) (hm : X.mg x = some (.ref f)) (hk : W.keepIn X.K (.ref f) = true) (hb : Binds X.K fd ps ds) (hd : Vals dvs ds)
   (ha : PA X.nox (e :: es) t) (hdb : (x == ("__debug__" : Str)) = false := by decide) (he : starEach (e :: es) X.env = (false, eval e X.env) :: starEach es X.env := by rfl) (hpl : (backTo pos (starEach es X.env)).any (·.1) = false := by rfl) :
   PEx X (.Call (.Name x p) (e :: es) [] pos) (xCall sp dvs t) := by
 intro pins s σ H Q E I h
 refine wpAny_Call_Name_kw (UG I hg hm ?_ hdb)
 refine W.callWith_K (h₀ := X.base) I.ok.mod.kin hk (wpAny_mono (ha pos pins s σ H _ (I.wish _) h) (fun us s1 ⟨vs, H1, I1, r, q⟩ => ⟨I1.unwish.kIn, ?_⟩) fun _ _ z => z.elim) he hpl
 exact run_fnx F hr hb hd I1.unwish r q
def xMeth (C : Addr) (m : Str) (sp : Sp) (dvs : List V) (ta : TE) (t : TA) : TEx := fun σ H Q E => ta σ H fun x H1 => ∃ a dx fs, x = .ref a ∧ H1 a = some (.ins C dx fs) ∧ fs.lookup m = none ∧
 t σ H1 fun vs H2 => sp (x :: (vs ++ dvs)) H2 Q fun cls _ H3 => E σ cls H3
theorem px_meth {pl : Sem Bool} (he : PE X.nox o ta) (c : Cls X.K C) (hm : Meth X.K C m f) (F : FnOk X.prog X.w X.K X.mg X.base (CXe X.prog X.w) k f fd ps sp) (hr : Room k X.A) (hb : Binds X.K fd ps ds) (hd : Vals dvs ds) (ha : PA X.nox (e :: es) t)
   (hst : starEach (e :: es) X.env = (false, eval e X.env) :: starEach es X.env := by rfl) (hpl : (backTo pos (starEach es X.env)).any (·.1) = false := by rfl)
   (ht : eval (.Call (.Attribute o m apos) (e :: es) [] pos) X.env = (do
     let ov ← eval o X.env
     standAt apos.atName
     let (f, first) ← holding [ov] (getMethod ov m pl)
     callWith pos f first (backTo pos (starEach (e :: es) X.env)) (backToKw pos (keywordEach [] X.env))) := by rfl) :
   PEx X (.Call (.Attribute o m apos) (e :: es) [] pos) (xMeth C m sp dvs ta t) := by
 intro pins s σ H Q E I h
 refine W.methodCall_KW (pl := pl) (wpAny_mono (he pins s σ H _ (I.wish _) h) (fun u s1 ⟨x, H1, I1, rx, a, dx, fs, ex, ea, l, q⟩ => ?_) fun _ _ z => z.elim) ht
 subst ex
 obtain rfl : u = Value.ref a := rx
 refine UW I1.unwish ea c hm l ?_
 refine W.callWith_K (first := [.ref a]) (h₀ := X.base) I.ok.mod.kin hm.kp (wpAny_mono (ha pos pins s1 σ H1 _ I1 q) (fun us s2 ⟨vs, H2, I2, r, q2⟩ => ⟨I2.unwish.kIn, ?_⟩) fun _ _ z => z.elim) hst hpl
 exact run_fnx (us := .ref a :: us) (vs := .ref a :: vs) F hr hb hd I2.unwish (.cons rfl r) q2
end
section
variable {X : Cx} {pos : Pos}
theorem YJ {st : Stmt} {t : TSx} (h1 : PSx X st t) : PSxs X [st] t := by
 intro pins s σ H D E I h
 refine wpAny_execs_cons (wpAny_mono (h1 pins s σ H D E I h) (fun fl s1 q => ?_) fun _ _ z => z)
 cases fl with
 | next => obtain ⟨σ1, H1, I1, q1⟩ := q; exact wpAny_execs_nil ⟨σ1, H1, I1, q1⟩
 | brk => exact q
 | cont => exact q
 | ret v => exact q
theorem UE {i : Nat} {x : Str} {e : Expr} {te : TEx} {pos' : Pos} (hN : X.N.Nodup) (hi : X.N[i]? = some x) (hx : Loc X.env.scope x) (he : PEx X e te) (hs : swapsWith e (some (.Name x pos')) pos.line X.env = pure false := by rfl) (hf : X.fn x = true ∨ X.env.scope.names.lookup x = some .local := by first | exact .inl rfl | exact .inr rfl | assumption) :
   PSx X (.Assign [.Name x pos'] e pos) (fun D E σ H => te σ H (fun v H1 => D.nx (σ.set i (some v)) H1) E) := by
 intro pins s σ H D E I h
 refine wpAny_Assign_Name (wpAny_mono (he pins s σ H _ E I h) (fun v s1 ⟨y, H1, I1, r1, q1⟩ => ?_) fun _ _ z => z) hs
 exact Ub I1 hN hi hx r1 (fun s2 I2 => ⟨_, H1, I2, q1⟩) hf
theorem psx_expr {e : Expr} {te : TEx} (he : PEx X e te) (hs : swapsWith e none pos.line X.env = pure false := by rfl) : PSx X (.Expr e pos) (fun D E σ H => te σ H (fun _ H1 => D.nx σ H1) E) := by
 intro pins s σ H D E I h
 exact wpAny_Expr_any (wpAny_mono (he pins s σ H _ E I h) (fun v s1 ⟨y, H1, I1, r1, q1⟩ => ⟨σ, H1, I1, q1⟩) fun _ _ z => z) I.quiet hs
theorem Sy {c : Expr} {a b : List Stmt} {tc : TT} {t u : TSx} (hc : PT X.nox c tc) (ha : PSxs X a t) (hb : PSxs X b u) : PSx X (.If c a b pos) (fun D E σ H => tc σ H fun k H1 => if k = true then t D E σ H1 else u D E σ H1) := by
 intro pins s σ H D E I h
 refine wpAny_If (wpAny_mono (hc pins s σ H _ (I.wish _) h) (fun k s1 ⟨H1, I1, q⟩ => ?_) fun _ _ z => z.elim)
 cases k with
 | true => exact ha pins s1 σ H1 D E I1.unwish (by simpa using q)
 | false => exact hb pins s1 σ H1 D E I1.unwish (by simpa using q)
end
end L2
end
section
namespace L2
open PySem PySem.Spec PyProof.Rows
def excO (ea : Addr) (cls : Value) : HO := .ext fun h => ∃ o vs, h.get? ea = some o ∧ o.cls = cls ∧ o.data = .fields vs
theorem excO_ok {P : Program} {w : World} {H : Hp} {h : Heap} {ea T : Addr} {cls a0 : Value} (x : Thrown h ea T cls a0) : ObjOk P w H h ea (excO ea cls) := by
 obtain ⟨oe, vs, oT, ts, h1, h2, h3, _⟩ := x
 refine ⟨⟨oe, vs, h1, h2.1, h3⟩, ⟨oe, h1⟩, fun g1 g2 p k => ?_⟩
 obtain ⟨o, us, e, c, d⟩ := p
 exact ⟨o, us, k o e, c, d⟩
abbrev Cx.marked (X : Cx) (ea : Addr) : Cx := { X with A := X.A.mark (some (.ref ea)), calm := false, xe := fun _ _ => False }
section
variable {X : Cx} {pins : List (Addr × Obj)} {σ : St} {H H' : Hp} {s s' : Shared} {h h1 h2 : Heap} {ea T : Addr} {cls a0 : Value} {fs : List Addr} {P : Program} {w : World}
theorem Cx.Ok.marked (ok : X.Ok) : (X.marked ea).Ok :=
 ⟨ok.mod, ok.kind, ok.glob, ok.blt, ok.above, ok.inj, ok.has, ok.cab, fun z => (Bool.noConfusion z), ok.frames, ok.stk, ok.exf, ok.bs, ok.bsz, ok.noex, ok.exfs, ok.funs, ok.frf⟩
theorem Inv.marked (I : Inv X pins σ H s) : Inv (X.marked ea) pins σ H s := ⟨I.ok.marked, I.os, I.bare, I.base, I.loc, I.cell, I.free, I.freeC, I.pin, I.hok, I.len⟩
theorem Inv.unmarked (I : Inv (X.marked ea) pins σ H s) (ok : X.Ok) : Inv X pins σ H s := ⟨ok, I.os, I.bare, I.base, I.loc, I.cell, I.free, I.freeC, I.pin, I.hok, I.len⟩
theorem Flung.track (F : Flung P w fs H H' h h1 ea T cls a0) : Un fs [] H (upd H' ea (excO ea cls)) h h1 ∧ HOk P w (upd H' ea (excO ea cls)) h1 := by
 have nb : ∀ b u, H' b = some u → b ≠ ea := fun b u q z => by rw [z, F.fe] at q; cases q
 refine ⟨⟨F.un.keep, F.un.slot, fun b o e n hx => ?_, F.un.there, fun b xs q => ?_, fun b o u q => ?_, fun b ps q => ?_⟩, fun a o e => ?_⟩
 · rw [Zc (fun z => by rw [z, F.ne] at e; cases e)]
   exact F.un.free b o e n hx
 · have q' := F.un.tups b xs q
   rw [Zc (nb b _ q')]
   exact q'
 · have q' := F.un.frzs b o u q
   rw [Zc (nb b _ q')]
   exact q'
 · obtain ⟨more, q'⟩ := F.un.tbls b ps q
   exact ⟨more, by rw [Zc (nb b _ q')]; exact q'⟩
 · by_cases ha : a = ea
   · subst ha
     rw [Zb] at e
     cases e
     exact excO_ok F.thr
   · rw [Zc ha] at e
     exact (F.hok a o e).stay (fun b u _ q => q) (fun b q => by rw [Zc (nb b _ q)]; exact q) fun b xs q => by rw [Zc (nb b _ q)]; exact q
theorem Inv.unbound {M : Model} {A : Around} {E : Value → Shared → Prop} {j : Nat} {n : Str} {npos : Pos} {Q : Unit → Shared → Prop} (I : Inv X pins σ H s) (hN : X.N.Nodup) (hj : X.N[j]? = some n) (hl : X.env.scope.names.lookup n = some .local)
   (k : ∀ s', Inv X pins (σ.set j none) H s' → Q () s') : wpAny M A (do bindName X.env n .none; unbindBehindTheSuite X.env n npos) Q E s := by
 obtain ⟨m, hn, look⟩ := id I.loc
 obtain ⟨oL, _, _, hoL, _⟩ := id hn
 have hjσ : j < σ.length := by rw [I.len]; exact (List.getElem?_eq_some_iff.mp hj).1
 refine wpAny_nameGoes_keeps hl hn (by rw [I.ok.kind]; rfl) fun h' v hn' sb => k _ ?_
 have neL : ∀ b o, X.s₀.heap.get? b = some o → b ≠ X.env.locals := fun b o e => Nat.ne_of_lt (Nat.lt_of_lt_of_le (Heap.lt_size e) I.ok.above)
 refine ⟨I.ok, I.os, I.bare, ⟨fun b o e z hb hx => (sb.2 b (neL b o e)).trans (I.base.keep b o e z hb hx), fun b o e z hb hx => ?_, I.base.free, fun b o e hx => ?_, I.base.tups, I.base.frzs, I.base.tbls⟩, ⟨_, hn', fun i x u e1 e2 e3 => ?_⟩, fun y c e => ?_, I.free, I.freeC, fun p hp => ?_, fun a o e => ?_, by simpa using I.len⟩
 · obtain ⟨sl, q⟩ := I.base.slot b o e z hb hx
   exact ⟨sl, (sb.2 b (neL b o e)).trans q⟩
 · obtain ⟨o', q⟩ := I.base.there b o e hx
   exact ⟨o', (sb.2 b (neL b o e)).trans q⟩
 · by_cases hi : i = j
   · subst hi
     rw [List.getElem?_set_self hjσ] at e2
     cases e2
   · rw [List.getElem?_set_ne (Ne.symm hi)] at e2
     obtain ⟨u', r, q⟩ := look i x u e1 e2 e3
     refine ⟨u', r, ?_⟩
     rcases q with ⟨kk, e⟩ | ⟨kk, c, e, z⟩
     · refine .inl ⟨kk, ?_⟩
       have nx : x ≠ n := fun z => hi (SG hN e1 (z ▸ hj))
       simp [nx, e]
     · exact .inr ⟨kk, c, e, z.sameBut sb (I.cne x c e)⟩
 · obtain ⟨w', z⟩ := I.cell y c e
   exact ⟨w', z.sameBut sb (I.cne y c e)⟩
 · obtain ⟨e, z, ne, nf, d⟩ := I.pin p hp
   exact ⟨(sb.2 p.1 ne).trans e, z, ne, nf, d⟩
 · refine (I.hok a o e).stay (fun b u hb q => (sb.2 b fun z => ?_).trans q) (fun _ q => q) fun _ _ q => q
   have z' : H b = none := by rw [z]; exact I.free
   rcases hb with hb | hb
   · rw [hb, e] at z'
     cases z'
   · rw [hb] at z'
     cases z'
theorem QE {K : W.Frag} {M : Model} {A : Around} {E : Value → Shared → Prop} {C Tc : Addr} {oe : Obj} {b : Bool} {Q : Bool → Shared → Prop} (x : K.In s.heap) (he : s.heap.get? ea = some oe) (hc : oe.cls = .ref C)
   (h0 : W.instIn K (.ref Tc) (.type "tuple") = some false) (h1 : (W.clsIn K Tc).isSome = true) (h2 : W.subIn K (.ref Tc) (.type "BaseException") = some true) (h3 : W.subIn K (.ref C) (.ref Tc) = some b) (hq : Q b s) :
   wpAny M A (excMatches (.ref ea) (.ref Tc)) Q E s := by
 have L0 : W.Looks M s.heap (isInstance (.ref Tc) (.type "tuple")) false := W.looks_instIn x h0
 have L1 : W.Looks M s.heap (isType (.ref Tc)) true := by
   unfold W.clsIn at h1
   split at h1
   · rename_i c d cd sl look
     intro A' Q' E' s' k q
     unfold isType loadHead
     exact wpAny_bind (wpAny_loadPart (k _ _ (x _ _ look)) (wpAny_pure q))
   · cases h1
 have L2' : W.Looks M s.heap (isSubtype (.ref Tc) (.type "BaseException")) true := W.looks_subIn x h2
 have L3 : W.Looks M s.heap (isSubtype (.ref C) (.ref Tc)) b := W.looks_subIn x h3
 have L4 : W.Looks M s.heap (typeOf (.ref ea)) (.ref C) := hc ▸ (W.Looks.ld he).andThen .now
 unfold excMatches
 refine wpAny_bind (L0.here ?_)
 simp only [Bool.false_eq_true, if_false]
 refine wpAny_bind (wpAny_pure ?_)
 simp only [List.forIn_cons, List.forIn_nil]
 unfold isExcClass
 refine wpAny_bind (wpAny_bind (wpAny_bind (wpAny_bind (L1.here ?_))))
 simp only [if_true]
 refine L2'.here ?_
 simp only [Bool.not_true, Bool.false_eq_true, if_false]
 refine wpAny_pure (wpAny_pure ?_)
 refine wpAny_bind (L4.here ?_)
 refine wpAny_bind (wpAny_bind (wpAny_bind (L3.here ?_)))
 cases b with
 | true =>
   simp only [if_true]
   exact wpAny_pure (wpAny_pure (wpAny_pure hq))
 | false =>
   simp only [Bool.false_eq_true, if_false]
   exact wpAny_pure (wpAny_pure (wpAny_pure hq))
end
structure Ctch (K : W.Frag) (Tc : Addr) : Prop where
 notup : W.instIn K (.ref Tc) (.type "tuple") = some false
 cls : (W.clsIn K Tc).isSome = true
 exc : W.subIn K (.ref Tc) (.type "BaseException") = some true
def tTry (K : W.Frag) (Tc : Addr) (j : Nat) (tb : TSx) (ts : TS) : TS := fun D σ H => tb D (fun σ' cls H' => ∃ C, cls = .ref C ∧ W.subIn K (.ref C) (.ref Tc) = some true ∧ ∀ ea, H' ea = none →
 ts { nx := fun σ'' H'' => D.nx (σ''.set j none) H'', rt := fun _ _ => False } (σ'.set j (some (.ref ea))) (upd H' ea (excO ea (.ref C)))) σ H
theorem ps_try {X : Cx} {c n : Str} {np hpos pos : Pos} {body : List Stmt} {b0 : Stmt} {suite : List Stmt} {j : Nat} {Tc : Addr} {tb : TSx} {ts : TS} (hst : X.stack = X.env :: X.outer) (hfr : X.env.frame = some X.env.locals) (hN : X.N.Nodup) (hj : X.N[j]? = some n)
   (hl : X.env.scope.names.lookup n = some .local) (hg : Gl X c) (hm : X.mg c = some (.ref Tc)) (hT : Ctch X.K Tc) (hb : PSxs X body tb) (hs : ∀ ea, PSs (X.marked ea) (b0 :: suite) ts) (hdb : (c == ("__debug__" : Str)) = false := by decide) :
   PS X (.Try body [.ExceptHandler (some (.Name c np)) (some n) (b0 :: suite) hpos] [] [] pos) (tTry X.K Tc j tb ts) := by
 intro pins s σ H D I h
 refine wpAny_Try_except (wpAny_mono (hb pins s σ H D _ I h) (fun f s1 q => ?_) fun e s1 q => ?_)
 · cases f with
   | next => exact wpAny_execs_nil q
   | brk => exact q
   | cont => exact q
   | ret v => exact q
 · obtain ⟨σ', H1, s0, ea, T, cls, a0, H', rfl, I0, ho, hg', F, C, rfl, hsub, hts⟩ := q
   have J := I0.flung F ho hg'
   have fl : Heap.FlyingW (W.hideAll s1.heap (ea :: T :: frs X.stack)) (X.env :: X.outer) ea (.ref C) a0 s1.heap := by
     refine ⟨fun b o e => W.of_hideAll _ e, W.hideAll_none _ List.mem_cons_self, ?_, F.thr.traced (W.hideAll_none _ (by simp))⟩
     rw [← hst]
     exact J.hid fun b m => List.mem_cons_of_mem _ (List.mem_cons_of_mem _ m)
   refine wpAny_looks_onW (L := X.env.locals) (by rw [I.ok.frames, hst]) hfr fl fun h2 held up => ?_
   refine wpAny_landsW held fun h3 fly up' => ?_
   obtain ⟨T3, F3⟩ := SQ F J.frOk J.stkFree fly.1 (up.trans up') fly.2.2.2
   have J3 : Inv X pins σ' H' { s1 with heap := h3 } := I0.flung (s' := { s1 with heap := h3 }) F3 ho hg'
   refine wpAny_handleBy_cons (codeAny_handlers_test (UG (X := X.marked ea) J3.marked hg hm ?_ hdb)) (by intro q; cases q)
   obtain ⟨oe, ov, oT, ts', g1, g2, g3, _⟩ := id F3.thr
   refine QE (s := { s1 with heap := h3 }) (K := X.K) J3.kIn g1 g2.1 hT.notup hT.cls hT.exc hsub ?_
   refine codeAny_handlers_suite_as (lands_againW fly fun h4 fly4 up4 => ?_)
   obtain ⟨T4, F4⟩ := SQ F J.frOk J.stkFree fly4.1 ((up.trans up').trans up4) fly4.2.2.2
   have J4 : Inv X pins σ' (upd H' ea (excO ea (.ref C))) { s1 with heap := h4 } := I0.call' (s' := { s1 with heap := h4 }) ho F4.track.1 F4.track.2 hg' fun b z => absurd z (by simp)
   refine Ub (X := X.marked ea) J4.marked hN hj (.inl hl) (v := .ref ea) rfl (fun s5 J5 => ?_) (.inr hl)
   refine wpAny_mono (hs ea pins s5 _ _ _ J5 (hts ea F4.fe)) (fun f s6 q6 => ?_) fun _ _ z => z.elim
   cases f with
   | next =>
     obtain ⟨σ6, H6, J6, q6⟩ := q6
     exact (J6.unmarked I.ok).unbound hN hj hl fun s7 J7 => ⟨_, H6, J7, q6⟩
   | brk => obtain ⟨_, _, _, q⟩ := q6; exact q.elim
   | cont => obtain ⟨_, _, _, q⟩ := q6; exact q.elim
   | ret v => obtain ⟨_, _, _, _, _, q⟩ := q6; exact q.elim
end L2
end
section
namespace L2
open PySem PySem.Spec PyProof.Rows
theorem Inv.track {X : Cx} {pins : List (Addr × Obj)} {σ : St} {H : Hp} {s : Shared} {a : Addr} {o : HO} (I : Inv X pins σ H s) (n : H a = none) (h1 : a ∈ X.ex ∨ X.s₀.heap.objs.size ≤ a) (hL : a ≠ X.env.locals)
   (h2 : ∀ x c, X.env.cells.lookup x = some c → c ≠ a) (h3 : ∀ p ∈ X.pn ++ pins, p.1 ≠ a) (new : ObjOk X.prog X.w (upd H a o) s.heap a o) : Inv X pins σ (upd H a o) s := by
 have nb : ∀ b u, H b = some u → b ≠ a := fun b u q z => by rw [z, n] at q; cases q
 refine I.step (g' := s.gens) (d' := s.drawn) (t' := s.toks) (h' := s.heap) (ch := [a]) (fun b hb => ?_) (fun b o _ _ _ e _ => e) (fun b o _ _ _ e _ => ⟨o.slots, e⟩) (fun b o hc e z => ?_) (fun b o _ e => ⟨o, e⟩)
   (fun b xs q => ?_) (fun b o u q => ?_) (fun b ps q => ⟨#[], ?_⟩) (fun m hm => hm) (fun b u q => ?_) I.bare
 · have e : b = a := by simpa using hb
   subst e
   exact ⟨h1, hL, h2, h3⟩
 · rw [Zc (by simpa using hc)]
   exact z
 · rw [Zc (nb b _ q)]
   exact q
 · rw [Zc (nb b _ q)]
   exact q
 · rw [Zc (nb b _ q), q]
   simp
 · by_cases hb : b = a
   · subst hb
     rw [Zb] at q
     cases q
     exact new
   · rw [Zc hb] at q
     exact (I.hok b u q).stay (fun _ _ _ z => z) (fun c z => by rw [Zc (nb c _ z)]; exact z) fun c xs z => by rw [Zc (nb c _ z)]; exact z
def Vb (X : Cx) (NB : List Str) (scope : Scope) (cl : List (Str × Addr)) (s0 : Shared) (H0 : Hp) (ex : List Addr) : Cx :=
 { X with N := NB, s₀ := s0, H₀ := H0, env := compEnvC scope cl s0.heap.objs.size X.env, outer := X.stack, ex := ex, fn := fun _ => false, pn := [], xe := fun _ _ => False }
structure CompOk (X : Cx) (scope : Scope) (cl : List (Str × Addr)) (NB : List Str) (fv : List (Option Nat)) : Prop where
 clos : closureFor scope X.env = pure cl
 kind : scope.kind = .function
 nocell : ∀ y ∈ scope.names, y.2 ≠ .cell
 names : ∀ y ∈ scope.names, y.2 = .local → scope.names.lookup y.1 = some .local
 nd : NB.Nodup
 len : fv.length = NB.length
 sub : ∀ x c, cl.lookup x = some c → X.env.cells.lookup x = some c
 has : ∀ x, ((relabel scope X.env).names.lookup x = some .cell ∨ (relabel scope X.env).names.lookup x = some .free) → ∃ c, cl.lookup x = some c
 free : ∀ (i : Nat) x j, NB[i]? = some x → fv[i]? = some (some j) → X.N[j]? = some x ∧ Vis X.env.scope x ∧ X.env.kindOf x ≠ some .local ∧ (∃ c, cl.lookup x = some c) ∧
   ((relabel scope X.env).names.lookup x = some .cell ∨ (relabel scope X.env).names.lookup x = some .free)
def blk (fv : List (Option Nat)) (σ : St) : St := fv.map fun o => o.bind fun j => (σ[j]?).join
theorem blk_at {fv : List (Option Nat)} {σ : St} {i : Nat} {v : V} (h : (blk fv σ)[i]? = some (some v)) : ∃ j, fv[i]? = some (some j) ∧ σ[j]? = some (some v) := by
 unfold blk at h
 rw [List.getElem?_map] at h
 cases e : fv[i]? with
 | none => rw [e] at h; cases h
 | some o =>
   rw [e] at h
   cases o with
   | none => cases h
   | some j =>
     have h' : (σ[j]?).join = some v := Option.some.inj h
     cases q : σ[j]? with
     | none => rw [q] at h'; cases h'
     | some z =>
       rw [q] at h'
       have h'' : z = some v := h'
       exact ⟨j, rfl, by rw [q, h'']⟩
theorem blk_none {fv : List (Option Nat)} {σ : St} {i : Nat} (h : fv[i]? = some none) : (blk fv σ)[i]? = some none := by
 unfold blk
 rw [List.getElem?_map, h]
 rfl
theorem blk_len {fv : List (Option Nat)} {σ : St} : (blk fv σ).length = fv.length := by
 unfold blk
 rw [List.length_map]
def PIfs (X : Cx) (ifs : List Expr) (t : TT) : Prop :=
 ∀ (pins : List (Addr × Obj)) (s : Shared) (σ : St) (H : Hp) (Q : Bool → Hp → Prop), Inv X pins σ H s → t σ H Q →
   wpAny (model X.prog X.w) X.A (forIn ifs true fun c r => if r = true then do let ok ← isTrue c X.env (eval c X.env); pure (ForInStep.yield ok) else pure (ForInStep.yield r)) (TP X pins σ Q) X.xe s
theorem Ui {X : Cx} : PIfs X [] (fun _ H Q => Q true H) := fun _ _ _ H _ I h => wpAny_tests_nil ⟨H, I, h⟩
theorem pifs_one {X : Cx} {c : Expr} {t : TT} (h : PT X c t) : PIfs X [c] t := fun pins s σ H Q I hw => wpAny_tests_one (h pins s σ H Q I hw)
section
variable {X : Cx} {pins : List (Addr × Obj)} {σ : St} {H : Hp} {s : Shared} {scope : Scope} {cl : List (Str × Addr)} {NB : List Str} {fv : List (Option Nat)} {ex : List Addr}
theorem comp_start {h1 : Heap} {tk : Nat} (I : Inv X pins σ H s) (O : CompOk X scope cl NB fv) (hex : ∀ b ∈ ex, b < s.heap.objs.size ∧ b ≠ X.env.locals ∧ b ∉ X.fs ∧ (∀ x c, X.env.cells.lookup x = some c → c ≠ b) ∧ H b = none ∧ ∀ o, X.base.get? b ≠ some o)
   (hns : h1.Ns s.heap.objs.size (fun x => (([] : List (Str × Value)).reverse).lookup x)) (old : ∀ b o, s.heap.get? b = some o → h1.get? b = some o) : Inv (Vb X NB scope cl s H ex) [] (blk fv σ) H { s with heap := h1, toks := tk } := by
 have hC : H s.heap.objs.size = none := I.hok.fresh (Nat.le_refl _)
 refine ⟨⟨I.ok.mod, ?_, I.ok.glob, I.ok.blt, Nat.le_refl _, fun x y c e1 e2 => I.ok.inj x y c (O.sub x c e1) (O.sub y c e2), fun x hx => O.has x hx, fun x c z => (Bool.noConfusion z), I.ok.hd, I.ok.frames, .inl rfl, fun b hb => ⟨Nat.ne_of_lt (hex b hb).1, fun x c e => (hex b hb).2.2.2.1 x c (O.sub x c e)⟩, I.bs, Nat.le_trans I.ok.bsz I.sz,
   fun b o e hb => (hex b hb).2.2.2.2.2 o e, fun b hb m => ?_, I.stack, I.stkFree⟩, rfl, I.bare, Un.kept old, ⟨_, hns, fun i x v e1 e2 e3 => ?_⟩, fun x c e => ?_, hC, fun x c e => I.freeC x c (O.sub x c e), fun p hp => absurd (show p ∈ ([] : List (Addr × Obj)) from hp) (by simp), I.hok.kept old, by rw [blk_len]; exact O.len⟩
 · exact O.kind
 · rcases List.mem_cons.mp (I.stkSub b m) with z | z
   · exact (hex b hb).2.1 z
   · exact (hex b hb).2.2.1 z
 · obtain ⟨j, f1, f2⟩ := blk_at e2
   obtain ⟨n1, n2, n3, ⟨c, n4⟩, n5⟩ := O.free i x j e1 f1
   obtain ⟨m, hn, look⟩ := I.loc
   obtain ⟨u, r, l⟩ := look j x v n1 f2 n2
   refine ⟨u, r, .inr ⟨n5, c, n4, ?_⟩⟩
   rcases l with ⟨z, _⟩ | ⟨_, c', e, z⟩
   · exact absurd z n3
   · rw [O.sub x c n4] at e
     cases e
     obtain ⟨oc, hoc, hd⟩ := z
     exact ⟨oc, old c oc hoc, hd⟩
 · obtain ⟨v, oc, hoc, hd⟩ := I.cell x c (O.sub x c e)
   exact ⟨v, oc, old c oc hoc, hd⟩
variable {x : Str} {px pos : Pos} {elt iter : Expr} {ifs : List Expr} {jx : Nat} {tc : TT} {te : TE} {J : It} {fp : List Addr} {it : Addr} {tn : Nat → Heap → Prop}
structure Off (X : Cx) (pins : List (Addr × Obj)) (a : Addr) : Prop where
 new : X.s₀.heap.objs.size ≤ a
 loc : a ≠ X.env.locals
 cell : ∀ x c, X.env.cells.lookup x = some c → c ≠ a
 pin : ∀ p ∈ X.pn ++ pins, p.1 ≠ a
 fs : a ∉ X.fs
theorem Inv.offNew {a : Addr} (I : Inv X pins σ H s) (h : s.heap.objs.size ≤ a) : Off X pins a := by
 obtain ⟨_, f1, f2, f3, f4, f5⟩ := I.fpOk (H' := fun _ => none) h rfl
 exact ⟨Nat.le_trans I.sz h, f1, f4, f5, f2⟩
theorem Inv.touch {C : Addr} {h'' : Heap} {tk : Nat} (I : Inv X pins σ H s) (n : H C = none) (o : Off X pins C) (sb : Heap.SameBut C s.heap h'') : Inv X pins σ H { s with heap := h'', toks := tk } :=
 I.turned (it := C) (fun b ob hb e => (sb.2 b hb).trans e) n o.loc (.inr o.new) o.cell o.pin
theorem RN {W : Nat → Nat → List V → Hp → Prop} {Fin : List V → Hp → Prop} {RR : Value → Addr → Result → Shared → Prop} (I : Inv X pins σ H s) (T : Turn X.prog X.w X.K (.Name x px) J fp it tn) (st : tn 0 s.heap) (hf : ∀ b ∈ fp, FpOk X pins H b) (hc : X.calm = true)
   (O : CompOk X scope cl NB fv) (hx : scope.names.lookup x = some .local) (hjx : NB[jx]? = some x) (hfx : fv[jx]? = some none) (hC : ∀ s0 H0 ex, PIfs (Vb X NB scope cl s0 H0 ex) ifs tc) (hE : ∀ s0 H0 ex, PE (Vb X NB scope cl s0 H0 ex) elt te)
   (w0 : ∃ m, W 0 m [] H)
   (turn : ∀ i m ys H, W i m ys H → ys.length < sizeLine ∧ ((J.stop i H ∧ Fin ys H) ∨ (J.go i H ∧ ∀ v H', J.yld i H v H' → tc ((blk fv σ).set jx (some v)) H' fun b H2 => if b = true then te ((blk fv σ).set jx (some v)) H2 fun y H3 => ∃ m', m' < m ∧ W (i + 1) m' (ys ++ [y]) H3 else ∃ m', m' < m ∧ W (i + 1) m' ys H2)))
   (hRR : ∀ acc C s' H' ys m, H' acc = none → Inv X pins σ (upd H' acc (.lst ys)) s' → s'.heap.Ns C m → Off X pins C → upd H' acc (.lst ys) C = none → Fin ys H' → RR (.ref acc) C (.ok .next) s') {E : Value → Shared → Prop} :
   wpAny (model X.prog X.w) X.A (newList []) (fun acc s3 => wpAny (model X.prog X.w) X.A (newFunctionEnv scope X.env.globals cl [] X.env.qual none .none (some X.env)) (fun cenv s4 =>
     codeAny (model X.prog X.w) X.A (.compStart (.ListComp elt [⟨.Name x px, iter, ifs, 0⟩] scope pos) 0 (.ref it) acc { cenv with scope := relabel scope X.env }) (RR acc cenv.locals) s4) E s3) E s := by
 obtain ⟨m0, w0⟩ := w0
 refine wpAny_newList (wpAny_newFunctionEnv O.nocell (by intro y hy; simp at hy) (fun h1 hns hsb => ?_) O.kind)
 dsimp only at hns hsb ⊢
 generalize hs3 : ({ s with heap := s.heap.push { cls := .type "list", data := .seq ([] : List Value).toArray } } : Shared) = s3
 have e3 : s3.heap = s.heap.push { cls := .type "list", data := .seq ([] : List Value).toArray } := by rw [← hs3]
 have I3 : Inv X pins σ H s3 := by
   rw [← hs3]
   exact I.kept (t' := s.toks) fun b o e => Heap.get?_push_of_some _ e
 have sz3 : s3.heap.objs.size = s.heap.objs.size + 1 := by rw [e3, Heap.size_push]
 have nacc : H s.heap.objs.size = none := I.hok.fresh (Nat.le_refl _)
 have offA := I.offNew (a := s.heap.objs.size) (Nat.le_refl _)
 have tn3 : tn 0 s3.heap := T.keep 0 s.heap s3.heap st fun b _ o e => by rw [e3]; exact Heap.get?_push_of_some _ e
 have lt : ∀ b ∈ fp, b < s.heap.objs.size := fun b hb => by
   obtain ⟨o, e, _⟩ := T.obj 0 s.heap st b hb
   exact Heap.lt_size e
 have nofs : ∀ b, b ≠ X.env.locals → b ∉ X.fs → b ∉ frs X.stack := fun b h1 h2 m => by
   rcases List.mem_cons.mp (I.stkSub b m) with z | z
   · exact h1 z
   · exact h2 z
 have nobase : ∀ b, (b ∈ X.ex ∨ X.s₀.heap.objs.size ≤ b) → ∀ o, X.base.get? b ≠ some o := fun b hb o e => by
   rcases hb with z | z
   · exact I.ok.noex b o e z
   · exact absurd (Nat.lt_of_lt_of_le (Heap.lt_size (I.ok.bs b o e).1) z) (Nat.lt_irrefl _)
 have IY0 := comp_start (ex := s.heap.objs.size :: fp) (h1 := h1) (tk := s.toks + ([] : List (Str × Value)).length) I3 O (fun b hb => by
   rcases List.mem_cons.mp hb with z | hb
   · rw [z]
     exact ⟨by rw [sz3]; exact Nat.lt_succ_self _, offA.loc, offA.fs, offA.cell, nacc, nobase _ (.inr offA.new)⟩
   · obtain ⟨f0, f1, f2, f3, f4, f5⟩ := hf b hb
     exact ⟨by rw [sz3]; exact Nat.lt_succ_of_lt (lt b hb), f1, f2, f4, f0, nobase b f3⟩) (by rw [e3]; exact hns) (fun b o e => by
   rw [e3] at e
   exact hsb.extBut b o (Nat.ne_of_lt (Heap.lt_size e)) (Heap.get?_push_of_some _ e))
 generalize hY : Vb X NB scope cl s3 H (s.heap.objs.size :: fp) = Y at IY0
 have hCY : PIfs Y ifs tc := hY ▸ hC s3 H _
 have hEY : PE Y elt te := hY ▸ hE s3 H _
 have yP : Y.prog = X.prog := by rw [← hY]; rfl
 have yw : Y.w = X.w := by rw [← hY]; rfl
 have yK : Y.K = X.K := by rw [← hY]; rfl
 have yA : Y.A = X.A := by rw [← hY]; rfl
 have yc : Y.calm = true := by rw [← hY]; exact hc
 have yN : Y.N = NB := by rw [← hY]; rfl
 have yenv : Y.env = compEnvC scope cl s3.heap.objs.size X.env := by rw [← hY]; rfl
 have yfs : Y.fs = frs X.stack := by rw [← hY]; rfl
 have yex : Y.ex = s.heap.objs.size :: fp := by rw [← hY]; rfl
 have ypn : Y.pn = [] := by rw [← hY]; rfl
 have yxe : Y.xe = fun _ _ => False := by rw [← hY]; rfl
 have ys0 : Y.s₀ = s3 := by rw [← hY]; rfl
 have yH0 : Y.H₀ = H := by rw [← hY]; rfl
 have yloc : Y.env.locals = s3.heap.objs.size := by rw [yenv]; rfl
 have ycell : ∀ z c, Y.env.cells.lookup z = some c → X.env.cells.lookup z = some c := fun z c e => by
   rw [yenv] at e
   exact O.sub z c e
 have yx : Y.env.scope.names.lookup x = some .local := by
   rw [yenv]
   exact lookup_relabel_local hx
 have accA : ∀ z c, Y.env.cells.lookup z = some c → c ≠ s.heap.objs.size := fun z c e => offA.cell z c (ycell z c e)
 have accL : s.heap.objs.size ≠ Y.env.locals := by rw [yloc, sz3]; exact Nat.ne_of_lt (Nat.lt_succ_self _)
 have fpY : ∀ {H' : Hp} {o : Obj} {pl : List (Addr × Obj)}, (∀ p ∈ pl, p.1 = s.heap.objs.size) → (∀ b ∈ fp, H' b = none) → ∀ b ∈ fp, FpOk Y pl H' b := fun {H' o pl} hpl hn b hb => by
   obtain ⟨f0, f1, f2, f3, f4, f5⟩ := hf b hb
   refine ⟨hn b hb, ?_, ?_, .inl ?_, fun z c e => f4 z c (ycell z c e), fun p hp => ?_⟩
   · rw [yloc, sz3]
     exact Nat.ne_of_lt (Nat.lt_succ_of_lt (lt b hb))
   · rw [yfs]
     exact nofs b f1 f2
   · rw [yex]
     exact List.mem_cons_of_mem _ hb
   · rw [ypn] at hp
     rw [hpl p hp]
     exact Ne.symm (Nat.ne_of_lt (lt b hb))
 have T' : Turn Y.prog Y.w Y.K (.Name x px) J fp it tn := by rw [yP, yw, yK]; exact T
 have loop : ∀ s4 : Shared, Inv Y [] (blk fv σ) H s4 → tn 0 s4.heap → s4.heap.get? s.heap.objs.size = some { cls := .type "list", data := .seq ([] : List Value).toArray } →
     codeAny (model X.prog X.w) X.A (.compLoop (.ListComp elt [⟨.Name x px, iter, ifs, 0⟩] scope pos) 0 (.ref it) (.ref s.heap.objs.size) (compEnvC scope cl s3.heap.objs.size X.env)) (RR (.ref s.heap.objs.size) s3.heap.objs.size) s4 := by
   intro s4 I4 t4 a4
   rw [← yenv, ← yP, ← yw, ← yA]
   refine codeAny_compLoop_tests (fun k s' => ∃ i ys H' its n, Inv Y [] (blk fv σ) H' s' ∧ tn i s'.heap ∧ (∀ b ∈ fp, H' b = none) ∧ H' s.heap.objs.size = none ∧ s'.heap.get? s.heap.objs.size = some { cls := .type "list", data := .seq (its : List Value).toArray n } ∧ Vals ys its ∧ W i k ys H') ?_ m0
     ⟨0, [], H, [], _, I4, t4, fun b hb => (hf b hb).1, nacc, a4, .nil, w0⟩
   rintro k s5 ⟨i, ys, H5, its, n, I5, t5, f5, n5, a5, v5, w5⟩
   obtain ⟨hlen, hturn⟩ := turn i k ys H5 w5
   have pinA : ∀ p ∈ [(s.heap.objs.size, ({ cls := .type "list", data := .seq (its : List Value).toArray n } : Obj))], s5.heap.get? p.1 = some p.2 ∧ H5 p.1 = none ∧ p.1 ≠ Y.env.locals ∧ p.1 ∉ Y.fs ∧ ∀ v, p.2.data ≠ .cell v := fun p hp => by
     have e := List.mem_singleton.mp hp
     subst e
     refine ⟨a5, n5, accL, ?_, fun v z => by cases z⟩
     rw [yfs]
     exact nofs _ offA.loc offA.fs
   have I5p := I5.pins_of pinA
   have fpo := fpY (H' := H5) (o := { cls := .type "list", data := .seq (its : List Value).toArray n }) (pl := [(s.heap.objs.size, ({ cls := .type "list", data := .seq (its : List Value).toArray n } : Obj))]) (fun p hp => by rw [List.mem_singleton.mp hp]) f5
   rcases hturn with ⟨stop, fin⟩ | ⟨go, step⟩
   · refine thn (T'.done Y rfl rfl rfl yc i _ s5 (blk fv σ) H5 _ I5p fpo t5 stop) fun r s6 ⟨hr, I6⟩ => ?_
     subst hr
     have a6 := (I6.pin (s.heap.objs.size, _) (by rw [ypn]; exact List.mem_singleton.mpr rfl)).1
     have u6 := I6.base
     rw [yfs, yex, yH0, ys0] at u6
     have hok6 := I6.hok
     rw [yP, yw] at hok6
     have os6 := I6.os
     rw [ys0] at os6
     have I7 : Inv X pins σ H5 s6 := I3.call' os6 u6 hok6 I6.bare fun b hb => by
       rcases List.mem_cons.mp hb with z | hb
       · rw [z]
         exact ⟨.inr offA.new, offA.loc, offA.cell, offA.pin⟩
       · obtain ⟨f0, f1, f2, f3, f4, f5⟩ := hf b hb
         exact ⟨f3, f1, f4, f5⟩
     have I8 : Inv X pins σ (upd H5 s.heap.objs.size (.lst ys)) s6 := I7.track n5 (.inr offA.new) offA.loc offA.cell offA.pin ⟨Nat.le_of_lt hlen, its, n, v5, a6⟩
     obtain ⟨mC, hnC, _⟩ := I6.loc
     rw [yloc] at hnC
     have offC := I3.offNew (a := s3.heap.objs.size) (Nat.le_refl _)
     refine hRR s.heap.objs.size s3.heap.objs.size s6 H5 ys mC n5 I8 hnC offC ?_ fin
     rw [Zc (by rw [sz3]; exact Nat.succ_ne_self _), ← yloc]
     exact I6.free
   · refine thn (T'.item Y rfl rfl rfl yc i _ s5 (blk fv σ) H5 _ I5p fpo t5 go) fun r s6 ⟨u, hr, h6⟩ => ?_
     subst hr
     show wpAny _ _ (letOwnedTupleGo (.Name x px) (.ref it) u >>= fun _ => assign (.Name x px) Y.env u) _ _ s6
     refine wpAny_bind (thn h6 fun _ s7 ⟨v, H7, I7, r7, y7, t7, f7⟩ => ?_)
     have fpo7 := fpY (H' := H7) (o := { cls := .type "list", data := .seq (its : List Value).toArray n }) (pl := [(s.heap.objs.size, ({ cls := .type "list", data := .seq (its : List Value).toArray n } : Obj))]) (fun p hp => by rw [List.mem_singleton.mp hp]) f7
     have I7p := I7.pinned fpo7 (T'.obj _ _ t7)
     refine wpAny_assign_Name (Ub I7p (by rw [yN]; exact O.nd) (by rw [yN]; exact hjx) (.inl yx) r7 (fun s8 I8 => ?_) (.inr yx))
     have bad : ∀ (e : Value) (s' : Shared), Y.xe e s' → notedBy (model Y.prog Y.w) Y.A Y.env (fun e s' => RR (.ref s.heap.objs.size) s3.heap.objs.size (.error e) s') e s' := fun e s' z => by
       rw [yxe] at z
       exact z.elim
     have after : ∀ {ys' : List V} {its' : List Value} {n' : Nat} {pl : List (Addr × Obj)} {H9 : Hp} {s9 : Shared}, Inv Y pl ((blk fv σ).set jx (some v)) H9 s9 → (∀ p ∈ UR fp s7.heap, p ∈ pl) → H9 s.heap.objs.size = none →
         s9.heap.get? s.heap.objs.size = some { cls := .type "list", data := .seq (its' : List Value).toArray n' } → Vals ys' its' → (∃ m', m' < k ∧ W (i + 1) m' ys' H9) → ∃ m', m' < k ∧ ∃ i ys H' its n, Inv Y [] (blk fv σ) H' s9 ∧ tn i s9.heap ∧ (∀ b ∈ fp, H' b = none) ∧ H' s.heap.objs.size = none ∧ s9.heap.get? s.heap.objs.size = some { cls := .type "list", data := .seq (its : List Value).toArray n } ∧ Vals ys its ∧ W i m' ys H' := fun {ys' its' n' pl H9 s9} I9 hp9 n9 a9 v9 w9 => by
       obtain ⟨m', hm, w9⟩ := w9
       have pinned : ∀ b ∈ fp, ∀ o, s7.heap.get? b = some o → s9.heap.get? b = some o ∧ H9 b = none := fun b hb o e => by
         have z := I9.pin (b, o) (List.mem_append_right _ (hp9 _ (UU hb e)))
         exact ⟨z.1, z.2.1⟩
       refine ⟨m', hm, i + 1, ys', H9, its', n', (I9.pins_of (pins' := []) fun p hp => absurd hp (by simp)).weak (by simp) (fun a z e => ?_), T'.keep _ _ _ t7 fun b hb o e => (pinned b hb o e).1, fun b hb => ?_, n9, a9, v9, w9⟩
       · by_cases ha : jx = a
         · subst ha
           rw [blk_none hfx] at e
           cases e
         · rw [List.getElem?_set_ne ha]
           exact e
       · obtain ⟨o, e, _⟩ := T'.obj _ _ t7 b hb
         exact (pinned b hb o e).2
     have inA : ∀ {H9 : Hp} {σ9 : St} {s9 : Shared}, Inv Y ([(s.heap.objs.size, ({ cls := .type "list", data := .seq (its : List Value).toArray n } : Obj))] ++ UR fp s7.heap) σ9 H9 s9 → s9.heap.get? s.heap.objs.size = some { cls := .type "list", data := .seq (its : List Value).toArray n } ∧ H9 s.heap.objs.size = none := fun I9 => by
       have z := I9.pin (s.heap.objs.size, _) (List.mem_append_right _ (List.mem_append_left _ (List.mem_singleton.mpr rfl)))
       exact ⟨z.1, z.2.1⟩
     refine wpAny_mono (hCY _ s8 _ H7 _ I8 (step v H7 y7)) (fun ok s9 ⟨H9, I9, q9⟩ => ?_) bad
     cases ok with
     | false =>
       exact after I9 (fun p hp => List.mem_append_right _ hp) (inA I9).2 (inA I9).1 v5 (by simpa using q9)
     | true =>
       rw [if_pos rfl] at q9
       refine wpAny_mono (hEY _ s9 _ H9 _ I9 q9) (fun u10 s10 ⟨y, H10, I10, r10, q10⟩ => ?_) bad
       refine append_at (inA I10).1 (fun h' sb ha => ?_) (by rw [List.size_toArray, ← v5.length]; exact Nat.le_of_lt hlen)
       have I11 := (I10.pins_of (pins' := UR fp s7.heap) fun p hp => I10.pin p (List.mem_append_right _ (List.mem_append_right _ hp))).turned (it := s.heap.objs.size) (h' := h') (t' := s10.toks) (fun b o hb e => (sb.2 b hb).trans e) (inA I10).2 accL (.inl (by rw [yex]; exact List.mem_cons_self)) accA (fun p hp => by
         rw [ypn] at hp
         obtain ⟨hb, _⟩ := RE hp
         exact Nat.ne_of_lt (lt _ hb))
       refine after (its' := its ++ [u10]) (n' := n + 1) I11 (fun p hp => hp) (inA I10).2 ?_ (v5.append (.cons r10 .nil)) q10
       rw [show ({ s10 with heap := h', toks := s10.toks } : Shared).heap = h' from rfl, ha]
       simp
 have hs4 : s.heap.push { cls := .type "list", data := .seq ([] : List Value).toArray } = s3.heap := e3.symm
 have acc1 : h1.get? s.heap.objs.size = some { cls := .type "list", data := .seq ([] : List Value).toArray } := hsb.extBut _ _ (by rw [Heap.size_push]; exact Nat.ne_of_lt (Nat.lt_succ_self _)) (Heap.get?_push_of_some _ (Heap.get?_push_size _ rfl))
 have tn1 : tn 0 h1 := T.keep 0 s.heap h1 st fun b _ o e => hsb.extBut b o (by rw [Heap.size_push]; exact Nat.ne_of_lt (Nat.lt_succ_of_lt (Heap.lt_size e))) (Heap.get?_push_of_some _ (Heap.get?_push_of_some _ e))
 have l4 := loop _ IY0 (by exact tn1) (by exact acc1)
 rw [← hs3] at l4
 exact codeAny_compStart_list l4 (T.self X.A 0 _ _ _ tn1 l4)
end
def tComp (wi : TI) (fv : List (Option Nat)) (jx : Nat) (tc : TT) (te : TE) : TE := fun σ H Q => wi σ H fun J H1 => ∃ W : Nat → Nat → List V → Hp → Prop, (∃ m, W 0 m [] H1) ∧ ∀ i m ys H, W i m ys H → ys.length < sizeLine ∧
 ((J.stop i H ∧ ∀ acc, H acc = none → Q (.ref acc) (upd H acc (.lst ys))) ∨ (J.go i H ∧ ∀ v H', J.yld i H v H' → tc ((blk fv σ).set jx (some v)) H' fun b H2 => if b = true then te ((blk fv σ).set jx (some v)) H2 fun y H3 => ∃ m', m' < m ∧ W (i + 1) m' (ys ++ [y]) H3 else ∃ m', m' < m ∧ W (i + 1) m' ys H2))
section
variable {X : Cx} {scope : Scope} {cl : List (Str × Addr)} {NB : List Str} {fv : List (Option Nat)} {x y : Str} {px py pos spos : Pos} {elt iter : Expr} {ifs : List Expr} {jx iy : Nat} {wi : TI} {tc : TT} {te : TE}
theorem pe_comp (hc : X.calm = true) (O : CompOk X scope cl NB fv) (hi : PI X (.Name x px) iter wi) (hx : scope.names.lookup x = some .local) (hjx : NB[jx]? = some x) (hfx : fv[jx]? = some none) (hC : ∀ s0 H0 ex, PIfs (Vb X NB scope cl s0 H0 ex) ifs tc)
   (hE : ∀ s0 H0 ex, PE (Vb X NB scope cl s0 H0 ex) elt te) (hs : ∀ x, foldedSetIterable iter X.env x = pure x := by intro _; rfl) : PE X (.ListComp elt [⟨.Name x px, iter, ifs, 0⟩] scope pos) (tComp wi fv jx tc te) := by
 intro pins s σ H Q I h
 rw [eval_ListComp]
 refine wpAny_comprehension_free (use := none) rfl hs O.clos O.kind O.names (thn (hi pins s σ H _ I h) fun v s1 h1 => thn h1 fun itv s2 h2 => ?_)
 obtain ⟨it, fp, tn, J, H2, e, I2, T, st2, f2, W, w0, turn⟩ := h2
 subst e
 refine RN (RR := fun acc C => compPost (model X.prog X.w) X.A X.xe none (EP X pins σ Q) acc C) I2 T st2 f2 hc O hx hjx hfx hC hE w0 turn fun acc C s' H' ys m na I' hn oC nC fin => ?_
 exact ⟨m, hn, fun h'' sb => ⟨.ref acc, _, I'.touch (tk := s'.toks) nC oC sb, rfl, fin acc na⟩⟩
theorem ps_setComp (hc : X.calm = true) (O : CompOk X scope cl NB fv) (hi : PI X (.Name x px) iter wi) (hx : scope.names.lookup x = some .local) (hjx : NB[jx]? = some x) (hfx : fv[jx]? = some none) (hC : ∀ s0 H0 ex, PIfs (Vb X NB scope cl s0 H0 ex) ifs tc)
   (hE : ∀ s0 H0 ex, PE (Vb X NB scope cl s0 H0 ex) elt te) (hN : X.N.Nodup) (hiy : X.N[iy]? = some y) (hy : Loc X.env.scope y)
   (hsw : swapsWith (.ListComp elt [⟨.Name x px, iter, ifs, 0⟩] scope pos) (some (.Name y py)) spos.line X.env = pure true) (hs : ∀ x, foldedSetIterable iter X.env x = pure x := by intro _; rfl)
   (hf : X.fn y = true ∨ X.env.scope.names.lookup y = some .local := by first | exact .inl rfl | exact .inr rfl | assumption) :
   PS X (.Assign [.Name y py] (.ListComp elt [⟨.Name x px, iter, ifs, 0⟩] scope pos) spos) (tAsg (tComp wi fv jx tc te) (gName iy)) := by
 intro pins s σ H D I h
 rw [exec_Assign_Name_used _ _ _ _ hsw]
 refine wpAny_bind (wpAny_standAt (wpAny_bind ?_))
 show wpAny _ _ (do let _ ← comprehension (.ListComp elt [⟨.Name x px, iter, ifs, 0⟩] scope pos) scope X.env _ (newList []) false (eval iter X.env) (some (assign (.Name y py) X.env))) _ _ s
 refine wpAny_bind (wpAny_mono (wpAny_comprehension_free (use := some (assign (.Name y py) X.env)) (Q := fun _ s' => SP X pins D .next s') rfl hs O.clos O.kind O.names (thn (hi pins s σ H _ I h) fun v s1 h1 => thn h1 fun itv s2 h2 => ?_)) (fun _ s' hq => wpAny_pure (wpAny_pure hq)) fun _ _ e => e)
 obtain ⟨it, fp, tn, J, H2, e, I2, T, st2, f2, W, w0, turn⟩ := h2
 subst e
 refine RN (RR := fun acc C => compPost (model X.prog X.w) X.A X.xe (some (assign (.Name y py) X.env)) (fun _ s' => SP X pins D .next s') acc C) I2 T st2 f2 hc O hx hjx hfx hC hE w0 turn fun acc C s' H' ys m na I' hn oC nC fin => ?_
 refine wpAny_assign_Name (Ru I' hN hiy hy (v := .ref acc) rfl (fun s8 I8 ⟨a, sb, ha⟩ => ?_) hf)
 have neC : C ≠ a := by
   rcases ha with z | z
   · rw [z]; exact oC.loc
   · exact fun q => oC.cell _ _ z q.symm
 exact ⟨m, hn.sameBut sb neC, fun h'' sb' => ⟨_, _, I8.touch (tk := s8.toks) nC oC sb', fin acc na⟩⟩
end
end L2
end
section
namespace L2
open PySem PySem.Spec PyProof.Rows
def NF (X : Cx) (a : Addr) : Prop := ∀ o u, X.H₀ a ≠ some (.frz o u)
theorem kV_of {P : Program} {w : World} {k : Key} {u : Value} (h : (ZH P w).is k u = true) : RelV (kV k) u := by
 rcases Yl (k := k) (v := u) h with ⟨i, t, rfl, rfl⟩ | ⟨x, t, rfl, rfl⟩
 · exact ⟨t, rfl⟩
 · exact ⟨t, rfl⟩
theorem KV.at {κ : Type} : ∀ {kvs : List (κ × V)} {vs : List (κ × Value)} {i : Nat} {k : κ} {v : V}, KV kvs vs → kvs[i]? = some (k, v) → ∃ u, vs[i]? = some (k, u) ∧ RelV v u
 | _, _, 0, _, _, .cons (b := q) r _, e => by
   simp at e
   subst e
   obtain ⟨q1, q2⟩ := q
   obtain ⟨r1, r2⟩ := r
   have r1' : _ = q1 := r1
   subst r1'
   exact ⟨q2, by simp, r2⟩
 | _, _, i + 1, k, v, .cons _ t, e => by
   obtain ⟨u, h1, h2⟩ := KV.at (i := i) (k := k) (v := v) t (by simpa using e)
   exact ⟨u, by simpa using h1, h2⟩
 | _, _, _, _, _, .nil, e => by simp at e
section
variable {X : Cx} {pins : List (Addr × Obj)} {σ : St} {H : Hp} {s : Shared} {a : Addr} {o : Obj} {kvs : List (Key × V)} {u : HO}
theorem Inv.notFrz (I : Inv X pins σ H s) (e : H a = some (.dK kvs)) : NF X a := fun o u z => by
 have q := I.base.frzs a o u z
 rw [e] at q
 cases q
theorem Inv.freeze (I : Inv X pins σ H s) (e : H a = some (.dK kvs)) (ho : s.heap.get? a = some o) : Inv X pins σ (upd H a (.frz o (.dK kvs))) s :=
 have J := I.write (x := a) (e := a) (o := .frz o (.dK kvs)) (h' := s.heap) (t' := s.toks) (by rw [e]; exact True.intro) (.inl rfl) (fun _ _ _ z => z) ⟨o, ho⟩ ⟨ho, by
   have q := I.hok a _ e
   exact q⟩
 J
theorem Inv.thaw (I : Inv X pins σ H s) (e : H a = some (.frz o u)) (n : NF X a) (hu : ∀ xs, u ≠ .tup xs) (hu2 : ∀ y, u ≠ .own y) : Inv X pins σ (upd H a u) s := by
 have nt : ∀ b xs, H b = some (.tup xs) → b ≠ a := fun b xs q z => by rw [z, e] at q; cases q
 have nw : ∀ b y, H b = some (.own y) → b ≠ a := fun b y q z => by rw [z, e] at q; cases q
 have nn : ∀ b, H b = none → b ≠ a := fun b q z => by rw [z, e] at q; cases q
 have nb : ∀ b ps, H b = some (.tbl ps) → b ≠ a := fun b ps q z => by rw [z, e] at q; cases q
 refine ⟨I.ok, I.os, I.bare, ⟨I.base.keep, I.base.slot, fun b o1 e1 z hx => ?_, I.base.there, fun b xs q => ?_, fun b o1 u1 q => ?_, fun b ps q => ?_⟩, I.loc, I.cell, ?_, fun x c e1 => ?_, fun p hp => ?_, fun b o1 q => ?_, I.len⟩
 · have q := I.base.free b o1 e1 z hx
   rw [Zc (nn b q)]
   exact q
 · have q' := I.base.tups b xs q
   rw [Zc (nt b xs q')]
   exact q'
 · have q' := I.base.frzs b o1 u1 q
   by_cases hb : b = a
   · subst hb
     exact absurd q (n o1 u1)
   · rw [Zc hb]
     exact q'
 · obtain ⟨m, q'⟩ := I.base.tbls b ps q
   exact ⟨m, by rw [Zc (nb b _ q')]; exact q'⟩
 · rw [Zc (nn _ I.free)]
   exact I.free
 · rw [Zc (nn _ (I.freeC x c e1))]
   exact I.freeC x c e1
 · obtain ⟨z1, z2, z3⟩ := I.pin p hp
   exact ⟨z1, by rw [Zc (nn _ z2)]; exact z2, z3⟩
 · by_cases hb : b = a
   · subst hb
     rw [Zb] at q
     cases q
     obtain ⟨_, q'⟩ := (show ObjOk X.prog X.w H s.heap b (.frz o u) from I.hok b _ e)
     exact q'.stay (fun _ _ _ z => z) (fun c z => by rw [Zc (nw c b z)]; exact z) fun c xs z => by rw [Zc (nt c xs z)]; exact z
   · rw [Zc hb] at q
     exact (I.hok b o1 q).stay (fun _ _ _ z => z) (fun c z => by rw [Zc (nw c b z)]; exact z) fun c xs z => by rw [Zc (nt c xs z)]; exact z
theorem Inv.known {ep : Nat} {es : Array DictEntry} (I : Inv X pins σ H s) (e : H a = some (.frz o (.dK kvs))) (hd : o.data = .dict es ep) : ∃ vs, KV kvs vs ∧ s.heap.DictAt (ZH X.prog X.w) a vs ep := by
 obtain ⟨ho, _, _, vs, r, o', es', ep', ho', h1, h2, h3⟩ := (show ObjOk X.prog X.w H s.heap a (.frz o (.dK kvs)) from I.hok a _ e)
 rw [ho] at ho'
 cases ho'
 rw [hd] at h2
 cases h2
 exact ⟨vs, r, o, es, ho, h1, hd, h3⟩
end
def Itd (a : Addr) (o : Obj) (kvs : List (Key × V)) : It := ⟨fun i H => i < kvs.length ∧ H a = some (.frz o (.dK kvs)), fun i H x H' => H' = H ∧ ∃ k v, kvs[i]? = some (k, v) ∧ x = kV k, fun i H => kvs.length ≤ i ∧ H a = some (.frz o (.dK kvs))⟩
def Itv (a : Addr) (o : Obj) (kvs : List (Key × V)) : It := ⟨fun i H => i < kvs.length ∧ H a = some (.frz o (.dK kvs)), fun i H x H' => H' = H ∧ ∃ k, kvs[i]? = some (k, x), fun i H => kvs.length ≤ i ∧ H a = some (.frz o (.dK kvs))⟩
theorem turn_dict {P : Program} {w : World} {K : W.Frag} {tg : Expr} {a it : Addr} {o : Obj} {kvs : List (Key × V)} {es : Array DictEntry} {ep : Nat} (hd : o.data = .dict es ep) : Turn P w K tg (Itd a o kvs) [it] it (fun i h => h.IsKeyIter it a i kvs.length ep) where
 mem := by simp
 obj := fun i h st b hb => by
   have e : b = it := by simpa using hb
   subst e
   obtain ⟨o, e, c, d⟩ := st
   exact ⟨o, e, fun v z => by rw [d] at z; cases z⟩
 keep := fun i h h' st k => st.at fun o e => k it (by simp) o e
 item := by
   intro X hP hw hK hc i pins s σ H E I hf st hg
   subst hP hw hK
   obtain ⟨hi, he⟩ := hg
   obtain ⟨vs, rv, da⟩ := I.known he hd
   obtain ⟨⟨k, v⟩, hk⟩ : ∃ p, kvs[i]? = some p := ⟨kvs[i], by simp [hi]⟩
   obtain ⟨u, hu, ru⟩ := KV.at rv hk
   have hl : kvs.length = vs.length := Paired.length rv
   obtain ⟨f0, f1, f2, f3, f4, f5⟩ := hf it (by simp)
   rw [hl] at st
   refine wpAny_pyNext_dict_item st da hu fun key h' hkey st' sb => ?_
   have I1 : Inv X pins σ H { s with heap := h' } := I.turned (t' := s.toks) (fun b ob hb e => (sb.2 b hb).trans e) f0 f1 f3 f4 f5
   obtain ⟨oi, e, c, d⟩ := id st'
   rw [← hl] at st'
   exact ⟨key, rfl, go_of (s := { s with heap := h' }) e c d (by decide) ⟨kV k, H, I1, kV_of hkey, ⟨rfl, k, v, hk, rfl⟩, st', fun b hb => (hf b hb).1⟩⟩
 done := by
   intro X hP hw hK hc i pins s σ H E I hf st hg
   subst hP hw hK
   obtain ⟨hi, he⟩ := hg
   obtain ⟨vs, rv, da⟩ := I.known he hd
   have hl : kvs.length = vs.length := Paired.length rv
   obtain ⟨f0, f1, f2, f3, f4, f5⟩ := hf it (by simp)
   rw [hl] at st
   exact wpAny_pyNext_dict_end (I.ok.hd hc) st da (List.getElem?_eq_none_iff.mpr (by omega)) fun h' eb => ⟨rfl, I.turned (t' := s.toks) (fun b o hb e => eb b o hb e) f0 f1 f3 f4 f5⟩
 self := fun _ _ _ _ _ st h => wpAny_pyIter_keyiter st h
theorem turn_vals {P : Program} {w : World} {K : W.Frag} {tg : Expr} {a it : Addr} {o : Obj} {kvs : List (Key × V)} {es : Array DictEntry} {ep : Nat} (hd : o.data = .dict es ep) : Turn P w K tg (Itv a o kvs) [it] it (fun i h => h.IsValIter it a i kvs.length ep) where
 mem := by simp
 obj := fun i h st b hb => by
   have e : b = it := by simpa using hb
   subst e
   obtain ⟨o, e, c, d⟩ := st
   exact ⟨o, e, fun v z => by rw [d] at z; cases z⟩
 keep := fun i h h' st k => st.at fun o e => k it (by simp) o e
 item := by
   intro X hP hw hK hc i pins s σ H E I hf st hg
   subst hP hw hK
   obtain ⟨hi, he⟩ := hg
   obtain ⟨vs, rv, da⟩ := I.known he hd
   obtain ⟨⟨k, v⟩, hk⟩ : ∃ p, kvs[i]? = some p := ⟨kvs[i], by simp [hi]⟩
   obtain ⟨u, hu, ru⟩ := KV.at rv hk
   have hl : kvs.length = vs.length := Paired.length rv
   obtain ⟨f0, f1, f2, f3, f4, f5⟩ := hf it (by simp)
   rw [hl] at st
   refine wpAny_pyNext_values_item st da hu fun h' st' sb => ?_
   have I1 : Inv X pins σ H { s with heap := h' } := I.turned (t' := s.toks) (fun b ob hb e => (sb.2 b hb).trans e) f0 f1 f3 f4 f5
   obtain ⟨oi, e, c, d⟩ := id st'
   rw [← hl] at st'
   exact ⟨u, rfl, go_of (s := { s with heap := h' }) e c d (by decide) ⟨v, H, I1, ru, ⟨rfl, k, hk⟩, st', fun b hb => (hf b hb).1⟩⟩
 done := by
   intro X hP hw hK hc i pins s σ H E I hf st hg
   subst hP hw hK
   obtain ⟨hi, he⟩ := hg
   obtain ⟨vs, rv, da⟩ := I.known he hd
   have hl : kvs.length = vs.length := Paired.length rv
   obtain ⟨f0, f1, f2, f3, f4, f5⟩ := hf it (by simp)
   rw [hl] at st
   exact wpAny_pyNext_values_end (I.ok.hd hc) st da (List.getElem?_eq_none_iff.mpr (by omega)) fun h' eb => ⟨rfl, I.turned (t' := s.toks) (fun b o hb e => eb b o hb e) f0 f1 f3 f4 f5⟩
 self := fun _ _ _ _ _ st h => wpAny_pyIter_valiter st h
def valsO (v d : Addr) : HO := .ext fun h => h.IsValuesView v d
section
variable {X : Cx} {tg : Expr}
def iDict (X : Cx) (tl : TE) : TI := fun σ H R => tl σ H fun x H1 => ∃ a kvs, x = .ref a ∧ H1 a = some (.dK kvs) ∧ ∀ o, NF X a → R (Itd a o kvs) (upd H1 a (.frz o (.dK kvs)))
def iVals (X : Cx) (tl : TE) : TI := fun σ H R => tl σ H fun x H1 => ∃ v a kvs, x = .ref v ∧ H1 v = some (valsO v a) ∧ H1 a = some (.dK kvs) ∧ ∀ o, NF X a → R (Itv a o kvs) (upd H1 a (.frz o (.dK kvs)))
theorem Sb {l : Expr} {tl : TE} (hl : PE X l tl) : PI X tg l (iDict X tl) := by
 intro pins s σ H R I h
 refine thn (hl pins s σ H _ I h) fun v s1 ⟨x, H1, I1, r1, q1⟩ => ?_
 obtain ⟨a, kvs, e, ha, q⟩ := q1
 subst e
 cases r1
 obtain ⟨z, hd, vs, rv, dd⟩ := SV I1.hok ha
 have hlen : kvs.length = vs.length := Paired.length rv
 obtain ⟨o, es, ep, ho, hr⟩ := id dd
 have da : s1.heap.DictAt (ZH X.prog X.w) a vs ep := ⟨o, es, ho, hr⟩
 refine wpAny_pyIter_dict hd da ?_
 have I2 := I1.freeze ha ho
 refine ⟨s1.heap.objs.size, [s1.heap.objs.size], _, _, _, rfl, I2.kept (t' := s1.toks) fun b o e => Heap.get?_push_of_some _ e, turn_dict (o := o) (kvs := kvs) hr.2.1, ⟨_, Heap.get?_push_size _ rfl, rfl, by rw [hlen]; rfl⟩, fun b hb => ?_, q o (I1.notFrz ha)⟩
 have e : b = s1.heap.objs.size := by simpa using hb
 subst e
 exact I1.fpOk (Nat.le_refl _) (by rw [Zc (fun z => Nat.lt_irrefl _ (z ▸ Heap.lt_size ho))]; exact I1.hok.fresh (Nat.le_refl _))
theorem pi_vals {l : Expr} {tl : TE} (hl : PE X l tl) : PI X tg l (iVals X tl) := by
 intro pins s σ H R I h
 refine thn (hl pins s σ H _ I h) fun v s1 ⟨x, H1, I1, r1, q1⟩ => ?_
 obtain ⟨w, a, kvs, e, hw, ha, q⟩ := q1
 subst e
 cases r1
 obtain ⟨z, hd, vs, rv, dd⟩ := SV I1.hok ha
 have hlen : kvs.length = vs.length := Paired.length rv
 obtain ⟨o, es, ep, ho, hr⟩ := id dd
 have da : s1.heap.DictAt (ZH X.prog X.w) a vs ep := ⟨o, es, ho, hr⟩
 have hv : s1.heap.IsValuesView w a := (show ObjOk X.prog X.w H1 s1.heap w (valsO w a) from I1.hok w _ hw).1
 refine wpAny_pyIter_values hv da ?_
 have I2 := I1.freeze ha ho
 refine ⟨s1.heap.objs.size, [s1.heap.objs.size], _, _, _, rfl, I2.kept (t' := s1.toks) fun b o e => Heap.get?_push_of_some _ e, turn_vals (o := o) (kvs := kvs) hr.2.1, ⟨_, Heap.get?_push_size _ rfl, rfl, by rw [hlen]; rfl⟩, fun b hb => ?_, q o (I1.notFrz ha)⟩
 have e : b = s1.heap.objs.size := by simpa using hb
 subst e
 exact I1.fpOk (Nat.le_refl _) (by rw [Zc (fun z => Nat.lt_irrefl _ (z ▸ Heap.lt_size ho))]; exact I1.hok.fresh (Nat.le_refl _))
def rVals : V → List V → Hp → VK → Prop := fun x xs H Q => ∃ a kvs, x = .ref a ∧ xs = [] ∧ H a = some (.dK kvs) ∧ ∀ v, H v = none → Q (.ref v) (upd H v (valsO v a))
theorem mt_vals : MtR X "dict.values" rVals := by
 intro pins s σ H x xs v us Q I rx rs h
 obtain ⟨a, kvs, rfl, rfl, ha, q⟩ := h
 cases rx
 cases rs
 obtain ⟨z, hd, vs, rv, dd⟩ := SV I.hok ha
 refine call_meetsIn F.slot_dict_values dd.typeIs F.entry_dict_values (F.args_dict_values_1 _) (meets_dict_values (ZH X.prog X.w) a hd) ⟨⟨vs, dd⟩, ?_⟩
 refine ⟨.ref s.heap.objs.size, _, I.laid (o := valsO s.heap.objs.size a) (t' := s.toks) (fun b u e => Heap.get?_push_of_some _ e) (Nat.le_refl _) ⟨⟨_, Heap.get?_push_size _ rfl, rfl, rfl⟩, ⟨_, Heap.get?_push_size _ rfl⟩, fun g1 g2 p k => ?_⟩, rfl, q _ (I.hok.fresh (Nat.le_refl _))⟩
 obtain ⟨o, e, c⟩ := p
 exact ⟨o, k o e, c⟩
def Thaw (X : Cx) (N : Hp → Prop) : Hp → Prop := fun H => ∃ a o kvs, NF X a ∧ H a = some (.frz o (.dK kvs)) ∧ N (upd H a (.dK kvs))
def Ends.thaw (X : Cx) (D : Ends) : Ends := { nx := fun σ H => Thaw X (D.nx σ) H, rt := fun v H => Thaw X (D.rt v) H, bk := fun σ H => Thaw X (D.bk σ) H, ct := fun σ H => Thaw X (D.ct σ) H }
theorem SP.thaw {pins : List (Addr × Obj)} {D : Ends} {f : Flow} {s : Shared} (h : SP X pins (D.thaw X) f s) : SP X pins D f s := by
 cases f with
 | next =>
   obtain ⟨σ, H, I, a, o, kvs, n, e, q⟩ := h
   exact ⟨σ, _, I.thaw e n (fun _ z => nomatch z) (fun _ z => nomatch z), q⟩
 | brk =>
   obtain ⟨σ, H, I, a, o, kvs, n, e, q⟩ := h
   exact ⟨σ, _, I.thaw e n (fun _ z => nomatch z) (fun _ z => nomatch z), q⟩
 | cont =>
   obtain ⟨σ, H, I, a, o, kvs, n, e, q⟩ := h
   exact ⟨σ, _, I.thaw e n (fun _ z => nomatch z) (fun _ z => nomatch z), q⟩
 | ret v =>
   obtain ⟨x, σ, H, I, r, a, o, kvs, n, e, q⟩ := h
   exact ⟨x, σ, _, I.thaw e n (fun _ z => nomatch z) (fun _ z => nomatch z), r, q⟩
theorem Qi {st : Stmt} {t : TS} (h : PS X st t) : PS X st (fun D => t (D.thaw X)) := fun pins s σ H D I hw => thn (h pins s σ H _ I hw) fun f s' q => q.thaw
theorem pe_thaw {e : Expr} {t : TE} (h : PE X e t) : PE X e (fun σ H Q => t σ H fun v H' => Thaw X (Q v) H') := fun pins s σ H Q I hw => thn (h pins s σ H _ I hw) fun u s' ⟨v, H', I', r, a, o, kvs, n, e, q⟩ =>
 ⟨v, _, I'.thaw e n (fun _ z => nomatch z) (fun _ z => nomatch z), r, q⟩
end
end L2
end
section
namespace L2
open PySem PySem.Spec PyProof.Rows
mutual
inductive Den (K : W.Frag) (H : Hp) : V → PyData → Prop
 | non : Den K H .non .none
 | bl (b : Bool) : Den K H (.bl b) (.bool b)
 | int (i : Int) : Den K H (.int i) (.int i)
 | str (x : Str) : Den K H (.str x) (.str x)
 | tup {a : Addr} {xs : List V} {ds : List PyData} : SqT K H a xs → DenL K H xs ds → Den K H (.ref a) (.tuple ds)
 | lst {a : Addr} {xs : List V} {ds : List PyData} : SqL K H a xs → DenL K H xs ds → Den K H (.ref a) (.list ds)
inductive DenL (K : W.Frag) (H : Hp) : List V → List PyData → Prop
 | nil : DenL K H [] []
 | cons {x : V} {xs : List V} {d : PyData} {ds : List PyData} : Den K H x d → DenL K H xs ds → DenL K H (x :: xs) (d :: ds)
end
section
variable {X : Cx} {pins : List (Addr × Obj)} {σ : St} {H : Hp} {s : Shared}
mutual
theorem Den.reads (I : Inv X pins σ H s) : ∀ {x : V} {d : PyData} {u : Value}, Den X.K H x d → RelV x u → ∃ as, Reads s.heap u d as
 | _, _, _, .non, r => by cases r; exact ⟨_, .none⟩
 | _, _, _, .bl b, r => by cases r; exact ⟨_, .bool b⟩
 | _, _, _, .int i, r => by obtain ⟨t, rfl⟩ := r; exact ⟨_, .int i t⟩
 | _, _, _, .str x, r => by obtain ⟨t, rfl⟩ := r; exact ⟨_, .str x t⟩
 | _, _, _, .tup hq hl, r => by
   cases r
   obtain ⟨its, rv, ⟨o, ho, hc, n, hd⟩, hz⟩ := I.tuple hq
   obtain ⟨as, q⟩ := DenL.reads I hl rv
   exact ⟨_, .tuple ho hc hd (by simpa using q)⟩
 | _, _, _, .lst hq hl, r => by
   cases r
   obtain ⟨its, rv, ⟨o, n, ho, hc, _, hd⟩, hz⟩ := I.list hq
   obtain ⟨as, q⟩ := DenL.reads I hl rv
   exact ⟨_, .list ho hc hd (by simpa using q)⟩
theorem DenL.reads (I : Inv X pins σ H s) : ∀ {xs : List V} {ds : List PyData} {us : List Value}, DenL X.K H xs ds → Vals xs us → ∃ as, ReadsAll s.heap us ds as
 | _, _, _, .nil, r => by cases r; exact ⟨_, .nil⟩
 | _, _, _, .cons hd hl, r => by
   cases r with
   | cons r1 r2 =>
     obtain ⟨as, q⟩ := Den.reads I hd r1
     obtain ⟨bs, p⟩ := DenL.reads I hl r2
     exact ⟨_, .cons q p⟩
end
end
section
variable {X : Cx}
def rEqD (K : W.Frag) : R2 := fun x y H Q => ∃ d e, Den K H x d ∧ Den K H y e ∧ SeqAt.shaped d = true ∧ SeqAt.shaped e = true ∧ Q (.bl (PyData.eqv d e)) H
def rNeD (K : W.Frag) : R2 := fun x y H Q => ∃ d e, Den K H x d ∧ Den K H y e ∧ SeqAt.shaped d = true ∧ SeqAt.shaped e = true ∧ Q (.bl (!PyData.eqv d e)) H
theorem Qm (hu : X.A.units + 64 < cLine) : OpR X (compareOp .Eq) (rEqD X.K) := by
 intro pins s σ H x y v u Q I rx ry h
 obtain ⟨d, e, hd, he, sd, se, q⟩ := h
 obtain ⟨as, ra⟩ := hd.reads I rx
 obtain ⟨bs, rb⟩ := he.reads I ry
 exact eq_dataH ra rb sd se hu ⟨.bl _, H, I, rfl, q⟩
theorem op_neD (hu : X.A.units + 64 < cLine) : OpR X (compareOp .NotEq) (rNeD X.K) := by
 intro pins s σ H x y v u Q I rx ry h
 obtain ⟨d, e, hd, he, sd, se, q⟩ := h
 obtain ⟨as, ra⟩ := hd.reads I rx
 obtain ⟨bs, rb⟩ := he.reads I ry
 exact ne_dataH ra rb sd se hu ⟨.bl _, H, I, rfl, q⟩
end
mutual
theorem eqv_refl : ∀ d : PyData, d.canLay0 = true → PyData.eqv d d = true
 | .none, _ => by simp [PyData.eqv]
 | .bool b, _ => by simp [PyData.eqv]
 | .int i, _ => by simp [PyData.eqv]
 | .str x, _ => by simp [PyData.eqv]
 | .list ds, h => by
   rw [PyData.eqv]
   exact Uv ds (by simpa [PyData.canLay0] using h)
 | .tuple ds, h => by
   rw [PyData.eqv]
   exact Uv ds (by simpa [PyData.canLay0] using h)
 | .dict _, h => by simp [PyData.canLay0] at h
theorem Uv : ∀ ds : List PyData, PyData.canLayAll0 ds = true → PyData.eqvAll ds ds = true
 | [], _ => by simp [PyData.eqvAll]
 | d :: ds, h => by
   have h' : d.canLay0 = true ∧ PyData.canLayAll0 ds = true := by simpa [PyData.canLayAll0] using h
   rw [PyData.eqvAll, eqv_refl d h'.1, Uv ds h'.2]
   rfl
end
theorem Vr {d : PyData} (h : SeqAt.shaped d = true) : PyData.eqv d d = true := eqv_refl d (SeqAt.canLay_of_shaped h)
section
variable {X : Cx}
def clsV : V → Option Value
 | .ref a => some (.ref a)
 | .ty n => some (.type n)
 | _ => none
theorem clsV_rel {c : V} {cv u : Value} (h : clsV c = some cv) (r : RelV c u) : u = cv := by
 cases c with
 | ref a => cases (Option.some.inj h); exact r
 | ty n => cases (Option.some.inj h); exact r
 | _ => cases h
def rIsi (K : W.Frag) : List V → Hp → VK → Prop := fun xs H Q => ∃ x t c cv b, xs = [x, c] ∧ TyOf K H x t ∧ clsV c = some cv ∧ W.kitOne K t cv = some b ∧ Q (.bl b) H
theorem call_isi : VC X (.builtin "isinstance") (rIsi X.K) := by
 intro pins s σ H xs us Q I r h
 obtain ⟨x, t, c, cv, b, rfl, ty, rc, e, q⟩ := h
 obtain ⟨u, u', rfl, ru, ru'⟩ := vals2 r
 cases clsV_rel rc ru'
 exact isinst_ok I ru ty e fun tk => ⟨.bl b, H, I.tok _, rfl, q⟩
end
section
variable {X : Cx}
end
end L2
end
section
namespace L2
open PySem PySem.Spec PyProof.Rows
section
variable {X : Cx}
def CDivB (i j : Int) : Prop := 0 < j ∧ j < 2 ^ 200
theorem ZJ : OpR X (binaryOp .FloorDiv) (rI CDivB fun i j => .int (i / j)) := opI fun i j _ _ _ _ _ hc q => by
 have h0 : 0 ≤ j := Int.le_of_lt hc.1
 refine floordiv_int (by have := hc.1; omega) ?_ (.inl (PyProof.noPylong_of_log2 ?_))
 · rw [Int.fdiv_eq_ediv_of_nonneg _ h0]
   exact q
 · by_cases hz : j.natAbs = 0
   · rw [hz]
     decide
   · have h1 : j.natAbs < 2 ^ 200 := by
       have := hc.2
       omega
     exact Nat.lt_trans ((Nat.log2_lt hz).mpr h1) (by decide)
end
theorem Tl {β : Type} (f : Nat → β) (le : β → β → Prop) (bt : Nat → Nat → Bool) (refl : ∀ x, le x x) (tr : ∀ x y z, le x y → le y z → le x z) (h1 : ∀ i j, bt i j = true → le (f i) (f j)) (h2 : ∀ i j, bt i j = false → le (f j) (f i)) :
   ∀ k, argBest bt k ≤ k ∧ ∀ i, i ≤ k → le (f (argBest bt k)) (f i)
 | 0 => ⟨Nat.le_refl _, fun i hi => by
     have e : i = 0 := Nat.le_zero.mp hi
     subst e
     exact refl _⟩
 | k + 1 => by
   obtain ⟨a, b⟩ := Tl f le bt refl tr h1 h2 k
   rw [argBest]
   cases e : bt (k + 1) (argBest bt k) with
   | true =>
     rw [if_pos rfl]
     refine ⟨Nat.le_refl _, fun i hi => ?_⟩
     rcases Nat.lt_or_ge i (k + 1) with q | q
     · exact tr _ _ _ (h1 _ _ e) (b i (Nat.lt_succ_iff.mp q))
     · have e' : i = k + 1 := Nat.le_antisymm hi q
       rw [e']
       exact refl _
   | false =>
     rw [if_neg Bool.false_ne_true]
     refine ⟨Nat.le_succ_of_le a, fun i hi => ?_⟩
     rcases Nat.lt_or_ge i (k + 1) with q | q
     · exact b i (Nat.lt_succ_iff.mp q)
     · have e' : i = k + 1 := Nat.le_antisymm hi q
       rw [e']
       exact h2 _ _ e
section
variable {prog : Program} {w : World} {A : Around} {R : Result → Shared → Prop} {I S : Addr} {fp wr : List Addr} {n : Nat} {P : Nat → Value → Prop} {St : Nat → Heap → Prop} {bt : Nat → Nat → Bool} {Gd : Heap → Prop}
def CmpG (prog : Program) (w : World) (A : Around) (P : Nat → Value → Prop) (Gd : Heap → Prop) (bt : Nat → Nat → Bool) : Prop :=
 ∀ i j vi vj (s : Shared) (Q : Value → Shared → Prop) (E : Value → Shared → Prop), Gd s.heap → P i vi → P j vj → Q (.bool (bt i j)) s → wpAny (model prog w) A (richCompare .Lt vi vj) Q E s
theorem min_loopG (W : Walks prog w A.in1 I fp wr n P St) (hcmp : CmpG prog w A.in1 P Gd bt) (stay : ∀ h h' : Heap, Gd h → (∀ b o, b ∉ wr → b ≠ S → h.get? b = some o → h'.get? b = some o) → Gd h') (hSf : S ∉ fp) :
   ∀ (k j : Nat) (s : Shared) (vb : Value) (c : Nat), n - (j + 1) = k → j + 1 ≤ n → St (j + 1) s.heap → Gd s.heap → P (argBest bt j) vb → s.heap.get? S = some { cls := .type "list", data := .seq #[vb, vb] c } →
   (∀ v h' tk, P (argBest bt (n - 1)) v → (∀ b o, b ∉ wr → b ≠ S → s.heap.get? b = some o → h'.get? b = some o) → R (.ok (.ret v)) { s with heap := h', toks := tk }) →
   codeAny (model prog w) A (.builtin "min.loop" ⟨[.ref I, .none, .ref S], []⟩) R s := by
 have nw : S ∉ wr := fun z => hSf (W.sub _ z)
 have nm : (toString "min" ++ toString ".loop" : String) = "min.loop" := by decide
 have off : ∀ (h : Heap) (g : Obj → Obj) (b : Addr) (o : Obj), b ≠ S → h.get? b = some o → (h.update S g).get? b = some o := fun h g b o z e => (Heap.get?_update_other _ _ (Ne.symm z)).trans e
 intro k
 induction k with
 | zero =>
   intro j s vb c ek ej hst hg pb hS fin
   have en : j + 1 = n := by omega
   refine codeAny_builtin F.entry_min_loop ?_
   rw [Around.under_plainId F.plain_min_loop _]
   show wpAny _ A.in1 (seqItems? (.ref S) >>= _) _ _ s
   refine wpAny_bind (wpAny_seqItems hS rfl ?_)
   show wpAny _ A.in1 (tryCatch (pyNext (.ref I)) _ >>= _) _ _ s
   refine wpAny_bind (wpAny_tryCatch (W.done s _ _ (en ▸ hst) fun h1 tk1 k1 => ?_))
   have hS1 := k1 S _ nw hS
   show wpAny _ A.in1 (updateSeq S (fun _ => #[]) >>= _) _ _ _
   refine wpAny_bind ?_
   refine wpAny_updateSeq hS1 rfl (wpAny_bind (wpAny_letGo (wpAny_pure ?_)))
   exact fin vb _ tk1 (by rw [← en]; exact pb) fun b o z1 z2 e => off _ _ b o z2 (k1 b o z1 e)
 | succ k ih =>
   intro j s vb c ek ej hst hg pb hS fin
   have lt : j + 1 < n := by omega
   refine codeAny_builtin F.entry_min_loop ?_
   rw [Around.under_plainId F.plain_min_loop _]
   show wpAny _ A.in1 (seqItems? (.ref S) >>= _) _ _ s
   refine wpAny_bind (wpAny_seqItems hS rfl ?_)
   show wpAny _ A.in1 (tryCatch (pyNext (.ref I)) _ >>= _) _ _ s
   refine wpAny_bind (wpAny_tryCatch (W.item (j + 1) s _ _ lt hst fun v h1 tk1 pv st1 k1 => ?_))
   have hS1 := k1 S _ nw hS
   have hg1 : Gd h1 := stay _ _ hg fun b o z1 _ e => k1 b o z1 e
   show wpAny _ A.in1 (tryCatch (holding [v, v] (richCompare .Lt v vb >>= _)) _ >>= _) _ _ _
   refine wpAny_bind (wpAny_tryCatch (wpAny_holding (wpAny_bind (hcmp (j + 1) (argBest bt j) v vb _ _ _ hg1 pv pb ?_))))
   refine wpAny_bind (wpAny_holding (wpAny_truthy_bool ?_))
   refine wpAny_bind (wpAny_letGo (wpAny_pure ?_))
   cases hb : bt (j + 1) (argBest bt j) with
   | true =>
     simp only [if_true]
     refine wpAny_bind ?_
     refine wpAny_updateSeq hS1 rfl (wpAny_bind (wpAny_letGo ?_))
     rw [nm]
     refine wpAny_pure ⟨plainId_quiet F.plain_min_loop _, ih (j + 1) _ v _ (by omega) lt (W.frame _ _ _ st1 fun b z o e => off _ _ b o (fun q => hSf (q ▸ z)) e) (stay _ _ hg1 fun b o _ z e => off _ _ b o z e) (by simp only [argBest, hb, if_true]; exact pv) (Heap.get?_update_self _ hS1 rfl) fun v' h2 tk2 p2 k2 => ?_⟩
     exact fin v' h2 tk2 p2 fun b o z1 z2 e => k2 b o z1 z2 (off _ _ b o z2 (k1 b o z1 e))
   | false =>
     simp only [Bool.false_eq_true, if_false]
     refine wpAny_bind (wpAny_letGo ?_)
     rw [nm]
     refine wpAny_pure ⟨plainId_quiet F.plain_min_loop _, ih (j + 1) _ vb c (by omega) lt st1 hg1 (by simp only [argBest, hb, Bool.false_eq_true, if_false]; exact pb) hS1 fun v' h2 tk2 p2 k2 => ?_⟩
     exact fin v' h2 tk2 p2 fun b o z1 z2 e => k2 b o z1 z2 (k1 b o z1 e)
end
section
variable {prog : Program} {w : World} {A : Around} {E : Value → Shared → Prop} {s : Shared}
theorem min_listG {l : Addr} {its : Array Value} {Gd : Heap → Prop} {bt : Nat → Nat → Bool} {Q : Value → Shared → Prop} (hh : A.handled = none) (hl : s.heap.IsList l its) (hn : 0 < its.size)
   (hcmp : CmpG prog w A.in1 (fun i v => its[i]? = some v) Gd bt) (hg : Gd s.heap) (stay : ∀ h h' : Heap, Gd h → (∀ b o, b < s.heap.objs.size → h.get? b = some o → h'.get? b = some o) → Gd h')
   (hQ : ∀ v h' tk, its[argBest bt (its.size - 1)]? = some v → (∀ b o, s.heap.get? b = some o → h'.get? b = some o) → Q v { s with heap := h', toks := tk }) :
   wpAny (model prog w) A (call (.builtin "min") [.ref l]) Q E s := by
 have nm : (toString "min" ++ toString ".loop" : String) = "min.loop" := by decide
 have hlt : l < s.heap.objs.size := by obtain ⟨_, e, _⟩ := hl; exact Heap.lt_size e
 refine call_function_tree F.kind_min F.plain_min F.entry_min (F.args_min1 _) ?_
 show wpAny _ A.in1 (Builtin.Builtins.bindParams "min" ["key", "default"] 0 ⟨[], []⟩ >>= _) _ _ s
 refine wpAny_bind (wpAny_of_eq (show Builtin.Builtins.bindParams "min" ["key", "default"] 0 ⟨[], []⟩ = pure [none, none] from rfl) ?_)
 refine wpAny_bind (wpAny_pure ?_)
 refine wpAny_bind (wpAny_pyIter_list hl ?_)
 refine wpAny_bind (wpAny_newObj_type ?_)
 rw [nm]
 refine wpAny_pure ⟨plainId_quiet F.plain_min_loop _, ?_⟩
 generalize hh1 : s.heap.push { cls := .type "list_iterator", data := .fields #[.ref l, .int 0 0] } = h1
 have sz1 : h1.objs.size = s.heap.objs.size + 1 := by rw [← hh1, Heap.size_push]
 have W := Walks.list (prog := prog) (w := w) (A := A.in1) hh s.heap.objs.size l (Nat.ne_of_lt hlt) its
 have hSf : h1.objs.size ∉ [s.heap.objs.size, l] := by
   intro m
   rcases List.mem_cons.mp m with z | m
   · omega
   · have z : h1.objs.size = l := List.mem_singleton.mp m
     have q : l < h1.objs.size := by rw [sz1]; exact Nat.lt_succ_of_lt hlt
     rw [z] at q
     exact Nat.lt_irrefl _ q
 have nw : h1.objs.size ∉ [s.heap.objs.size] := fun m => hSf (W.sub _ m)
 have keep0 : ∀ b o, s.heap.get? b = some o → (h1.push { cls := .type "list", data := .seq ([] : List Value).toArray }).get? b = some o := fun b o e => Heap.get?_push_of_some _ (by rw [← hh1]; exact Heap.get?_push_of_some _ e)
 have st0 : (h1.push { cls := .type "list", data := .seq ([] : List Value).toArray }).IsListIter s.heap.objs.size l 0 ∧ (h1.push { cls := .type "list", data := .seq ([] : List Value).toArray }).IsList l its := by
   refine ⟨⟨_, Heap.get?_push_of_some _ (by rw [← hh1]; exact Heap.get?_push_size _ rfl), rfl, rfl⟩, ?_⟩
   obtain ⟨o, e, r⟩ := hl
   exact ⟨o, keep0 l o e, r⟩
 have old : ∀ b, b < s.heap.objs.size → b ∉ [s.heap.objs.size] ∧ b ≠ h1.objs.size := fun b z => ⟨fun m => by have := List.mem_singleton.mp m; omega, by omega⟩
 refine codeAny_builtin F.entry_min_loop ?_
 rw [Around.under_plainId F.plain_min_loop _]
 show wpAny _ A.in1 (seqItems? (.ref h1.objs.size) >>= _) _ _ _
 refine wpAny_bind (wpAny_seqItems (Heap.get?_push_size _ rfl) rfl ?_)
 show wpAny _ A.in1 (tryCatch (pyNext (.ref s.heap.objs.size)) _ >>= _) _ _ _
 refine wpAny_bind (wpAny_tryCatch (W.item 0 _ _ _ hn st0 fun v h2 tk2 pv st2 k2 => ?_))
 have hS2 := k2 h1.objs.size _ nw (Heap.get?_push_size _ rfl)
 show wpAny _ A.in1 (updateSeq h1.objs.size (fun _ => #[v, v]) >>= _) _ _ _
 refine wpAny_bind ?_
 refine wpAny_updateSeq hS2 rfl ?_
 rw [nm]
 have off : ∀ (h : Heap) (g : Obj → Obj) (b : Addr) (o : Obj), b ≠ h1.objs.size → h.get? b = some o → (h.update h1.objs.size g).get? b = some o := fun h g b o z e => (Heap.get?_update_other _ _ (Ne.symm z)).trans e
 have stay' : ∀ h h' : Heap, Gd h → (∀ b o, b ∉ [s.heap.objs.size] → b ≠ h1.objs.size → h.get? b = some o → h'.get? b = some o) → Gd h' := fun h h' g k => stay h h' g fun b o z e => k b o (old b z).1 (old b z).2 e
 have hg2 : Gd h2 := stay _ _ hg fun b o z e => k2 b o (old b z).1 (keep0 b o e)
 refine wpAny_pure ⟨plainId_quiet F.plain_min_loop _, min_loopG (S := h1.objs.size) W hcmp stay' hSf _ 0 _ v _ rfl hn (W.frame _ _ _ st2 fun b z o e => off _ _ b o (fun q => hSf (q ▸ z)) e) (stay' _ _ hg2 fun b o _ z e => off _ _ b o z e) pv (Heap.get?_update_self _ hS2 rfl) fun v' h3 tk3 p3 k3 => ?_⟩
 exact hQ v' h3 tk3 p3 fun b o e => k3 b o (old b (Heap.lt_size e)).1 (old b (Heap.lt_size e)).2 (off _ _ b o (old b (Heap.lt_size e)).2 (k2 b o (old b (Heap.lt_size e)).1 (keep0 b o e)))
end
section
variable {X : Cx}
end
end L2
end
section
namespace L2
open PySem PySem.Spec PyProof.Rows
def Xi (cells : List (Str × Addr)) : List (Str × NameKind) → List (Str × Addr) → List (Str × Addr)
 | [], cs => cs
 | (n, k) :: r, cs => Xi cells r (if k = .free then (n, (cells.lookup n).getD 0) :: cs else cs)
theorem Rq {scope : Scope} {env : Env} (h : ∀ y ∈ scope.names, y.2 = .free → ∃ c, env.cells.lookup y.1 = some c) : closureFor scope env = pure (Xi env.cells scope.names []) := by
 have all : ∀ (l : List (Str × NameKind)) (cs : List (Str × Addr)), (∀ y ∈ l, y.2 = .free → ∃ c, env.cells.lookup y.1 = some c) →
     (forIn l cs fun (x : Str × NameKind) (r : List (Str × Addr)) => (if (x.2 == NameKind.free) = true then do let a ← cellOf env x.1; pure (ForInStep.yield ((x.1, a) :: r)) else pure (ForInStep.yield r) : Sem (ForInStep (List (Str × Addr))))) = pure (Xi env.cells l cs) := by
   intro l
   induction l with
   | nil => intro cs _; rfl
   | cons y r ih =>
     intro cs hl
     obtain ⟨n, k⟩ := y
     rw [List.forIn_cons]
     by_cases hk : k = .free
     · obtain ⟨c, hc⟩ := hl (n, k) List.mem_cons_self hk
       subst hk
       have e1 : cellOf env n = pure c := by
         unfold cellOf
         rw [hc]
       have z := ih ((n, c) :: cs) fun y hy => hl y (List.mem_cons_of_mem _ hy)
       simp only [beq_self_eq_true, if_true, e1, pure_bind, Xi, hc, Option.getD_some]
       exact z
     · have z := ih cs fun y hy => hl y (List.mem_cons_of_mem _ hy)
       have hb : (k == NameKind.free) = false := by simpa using hk
       simp only [hb, Bool.false_eq_true, if_false, pure_bind, Xi, hk]
       exact z
 unfold closureFor
 have z := all scope.names [] h
 simpa using z
theorem Uy (cells : List (Str × Addr)) : ∀ (l : List (Str × NameKind)) (cs : List (Str × Addr)) (x : Str), (x, NameKind.free) ∉ l → (Xi cells l cs).lookup x = cs.lookup x
 | [], _, _, _ => rfl
 | (n, k) :: r, cs, x, h => by
   rw [Xi, Uy cells r _ x fun m => h (List.mem_cons_of_mem _ m)]
   by_cases hk : k = .free
   · subst hk
     rw [if_pos rfl]
     have ne : x ≠ n := fun e => h (by rw [e]; exact List.mem_cons_self)
     rw [List.lookup_cons]
     have : (x == n) = false := by simpa using ne
     rw [this]
   · rw [if_neg hk]
theorem VX (cells : List (Str × Addr)) : ∀ (l : List (Str × NameKind)) (cs : List (Str × Addr)) (x : Str), (x, NameKind.free) ∈ l → (Xi cells l cs).lookup x = some ((cells.lookup x).getD 0)
 | (n, k) :: r, cs, x, h => by
   rw [Xi]
   by_cases hr : (x, NameKind.free) ∈ r
   · exact VX cells r _ x hr
   · have e : (x, NameKind.free) = (n, k) := (List.mem_cons.mp h).resolve_right hr
     cases e
     rw [if_pos rfl, Uy cells r _ _ hr, List.lookup_cons]
     simp
def Sh (names : List (Str × NameKind)) (NB : List Str) (fv : List (Option Nat)) (XN : List Str) (Xnames : List (Str × NameKind)) : Bool :=
 names.all (fun y => decide (y.2 ≠ .cell)) && names.all (fun y => decide (y.2 ≠ .local) || decide (names.lookup y.1 = some .local)) && decide NB.Nodup && decide (fv.length = NB.length) &&
   names.all (fun y => decide (y.2 ≠ .free) || (decide (Xnames.lookup y.1 = some .cell) && decide (names.lookup y.1 = some .free))) &&
   (List.range NB.length).all (fun i => match fv[i]?, NB[i]? with
     | some (some j), some x => decide (XN[j]? = some x) && decide (names.lookup x = some .free)
     | _, _ => true)
theorem SI {α : Type} {l : List (Str × α)} {x : Str} {v : α} (h : l.lookup x = some v) : (x, v) ∈ l := PySem.mem_of_lookup h
theorem Vn {env : Env} (hk : env.scope.kind = .function) : ∀ {l : List (Str × NameKind)} {x : Str} {k : NameKind}, (∀ y ∈ l, y.2 = .free → env.kindOf y.1 = some .cell) → (∀ y ∈ l, y.2 ≠ .cell) →
   (l.map fun (y : Str × NameKind) => if (y.2 == NameKind.free && env.scope.kind == .function && env.kindOf y.1 == some .cell) = true then (y.1, NameKind.cell) else (y.1, y.2)).lookup x = some k → (k = .cell ∧ l.lookup x = some .free) ∨ (k ≠ .cell ∧ k ≠ .free ∧ l.lookup x = some k)
 | [], _, _, _, _, h => by simp at h
 | (n, q) :: r, x, k, h1, h2, h => by
   rw [List.map_cons] at h
   by_cases hq : q = .free
   · subst hq
     have e := h1 (n, .free) List.mem_cons_self rfl
     have ht : (NameKind.free == NameKind.free && env.scope.kind == .function && env.kindOf n == some .cell) = true := by
       rw [hk, show env.kindOf n = some .cell from e]
       decide
     simp only [ht, if_true] at h
     rw [List.lookup_cons] at h ⊢
     cases hx : x == n with
     | true =>
       rw [hx] at h
       have h' : NameKind.cell = k := Option.some.inj h
       exact .inl ⟨h'.symm, rfl⟩
     | false =>
       rw [hx] at h
       exact Vn hk (fun y hy => h1 y (List.mem_cons_of_mem _ hy)) (fun y hy => h2 y (List.mem_cons_of_mem _ hy)) h
   · have hb : (q == NameKind.free) = false := by simpa using hq
     simp only [hb, Bool.false_and, Bool.false_eq_true, if_false] at h
     rw [List.lookup_cons] at h ⊢
     cases hx : x == n with
     | true =>
       rw [hx] at h
       have h' : q = k := Option.some.inj h
       subst h'
       exact .inr ⟨h2 (n, q) List.mem_cons_self, hq, rfl⟩
     | false =>
       rw [hx] at h
       exact Vn hk (fun y hy => h1 y (List.mem_cons_of_mem _ hy)) (fun y hy => h2 y (List.mem_cons_of_mem _ hy)) h
theorem Td {env : Env} (hk : env.scope.kind = .function) : ∀ {l : List (Str × NameKind)} {x : Str}, (∀ y ∈ l, y.2 = .free → env.kindOf y.1 = some .cell) → l.lookup x = some .free →
   (l.map fun (y : Str × NameKind) => if (y.2 == NameKind.free && env.scope.kind == .function && env.kindOf y.1 == some .cell) = true then (y.1, NameKind.cell) else (y.1, y.2)).lookup x = some .cell
 | [], _, _, h => by simp at h
 | (n, q) :: r, x, h1, h => by
   rw [List.map_cons]
   rw [List.lookup_cons] at h
   cases hx : x == n with
   | true =>
     rw [hx] at h
     have h' : q = .free := Option.some.inj h
     subst h'
     have e := h1 (n, .free) List.mem_cons_self rfl
     have ht : (NameKind.free == NameKind.free && env.scope.kind == .function && env.kindOf n == some .cell) = true := by
       rw [hk, show env.kindOf n = some .cell from e]
       decide
     simp only [ht, if_true]
     rw [List.lookup_cons, hx]
   | false =>
     rw [hx] at h
     have z := Td hk (fun y hy => h1 y (List.mem_cons_of_mem _ hy)) h
     split
     · rw [List.lookup_cons, hx]
       exact z
     · rw [List.lookup_cons, hx]
       exact z
theorem RO {X : Cx} {scope : Scope} {NB : List Str} {fv : List (Option Nat)} (hk : scope.kind = .function) (hX : X.env.scope.kind = .function) (hcell : ∀ x, X.env.scope.names.lookup x = some .cell → ∃ c, X.env.cells.lookup x = some c)
   (chk : Sh scope.names NB fv X.N X.env.scope.names = true) : CompOk X scope (Xi X.env.cells scope.names []) NB fv := by
 unfold Sh at chk
 simp only [Bool.and_eq_true, List.all_eq_true, decide_eq_true_eq, Bool.or_eq_true] at chk
 obtain ⟨⟨⟨⟨⟨c1, c2⟩, c3⟩, c4⟩, c5⟩, c6⟩ := chk
 have f1 : ∀ y ∈ scope.names, y.2 = .free → X.env.kindOf y.1 = some .cell := fun y hy e => by
   rcases c5 y hy with z | z
   · exact absurd e z
   · exact z.1
 have hasc : ∀ x, (x, NameKind.free) ∈ scope.names → ∃ c, X.env.cells.lookup x = some c := fun x m => hcell x (f1 _ m rfl)
 have isfree : ∀ x, (relabel scope X.env).names.lookup x = some .cell ∨ (relabel scope X.env).names.lookup x = some .free → scope.names.lookup x = some .free := fun x h => by
   have lem := @Vn X.env hX scope.names x
   rcases h with h | h
   · rcases lem f1 c1 (k := .cell) h with ⟨_, z⟩ | ⟨z, _⟩
     · exact z
     · exact absurd rfl z
   · rcases lem f1 c1 (k := .free) h with ⟨z, _⟩ | ⟨_, z, _⟩
     · cases z
     · exact absurd rfl z
 refine ⟨Rq fun y hy e => ?_, hk, c1, fun y hy e => ?_, c3, c4, fun x c h => ?_, fun x h => ?_, fun i x j h1 h2 => ?_⟩
 · obtain ⟨n, q⟩ := y
   have e' : q = .free := e
   subst e'
   exact hasc n hy
 · rcases c2 y hy with z | z
   · exact absurd e z
   · exact z
 · by_cases m : (x, NameKind.free) ∈ scope.names
   · obtain ⟨c', hc'⟩ := hasc x m
     rw [VX _ _ _ _ m, hc'] at h
     rw [hc']
     exact h
   · rw [Uy _ _ _ _ m] at h
     cases h
 · have m := SI (isfree x h)
   exact ⟨_, VX _ _ _ _ m⟩
 · have hi : i < NB.length := (List.getElem?_eq_some_iff.mp h1).1
   have z := c6 i (List.mem_range.mpr hi)
   rw [h1, h2] at z
   simp only [Bool.and_eq_true, decide_eq_true_eq] at z
   have m := SI z.2
   have kc := f1 _ m rfl
   refine ⟨z.1, .inr (.inl kc), ?_, ⟨_, VX _ _ _ _ m⟩, .inl (Td hX f1 z.2)⟩
   rw [kc]
   decide
theorem VM {CX : CXT} {P : Program} {w : World} {K : W.Frag} {mg : Str → Option Value} {base : Heap} {N : List Str} {qual : Str} {sc scope : Scope} {f : Addr} {cd : Value} {A : Around} {outer : List Env} {s : Shared} {H : Hp} {E : XK} {NB : List Str} {fv : List (Option Nat)}
   (hk : scope.kind = .function) (hX : sc.kind = .function) (chk : Sh scope.names NB fv N sc.names = true) :
   CompOk (cxOf CX P w K mg base N qual sc f cd A outer s H E).nox scope (Xi (cxOf CX P w K mg base N qual sc f cd A outer s H E).env.cells scope.names []) NB fv :=
 RO hk hX (fun x h => Tj h) chk
theorem compOk_fnE {CX : CXT} {P : Program} {w : World} {K : W.Frag} {mg : Str → Option Value} {base : Heap} {N : List Str} {qual : Str} {sc scope : Scope} {f : Addr} {cd : Value} {A : Around} {outer : List Env} {s : Shared} {H : Hp} {E : XK} {NB : List Str} {fv : List (Option Nat)}
   (hk : scope.kind = .function) (hX : sc.kind = .function) (chk : Sh scope.names NB fv N sc.names = true) :
   CompOk (cxOf CX P w K mg base N qual sc f cd A outer s H E) scope (Xi (cxOf CX P w K mg base N qual sc f cd A outer s H E).env.cells scope.names []) NB fv :=
 RO hk hX (fun x h => Tj h) chk
end L2
end
section
namespace L2
open PySem PySem.Spec PyProof.Rows
structure ExcC (K : W.Frag) (C : Addr) : Prop where
 ga : W.findIn K (.ref C) "__getattribute__" = some (some (.builtin "BaseException.__getattribute__"))
 gn : W.findIn K (.ref C) "__getattr__" = some none
 gc : W.findIn K (.ref C) "__class__" = some (some (.builtin "object.__class__"))
 mo : W.mroIn K C (.type "object") = some true
 mb : W.mroIn K C (.type "BaseException") = some true
 cl : (W.clsIn K C).isSome = true
theorem isT_of {K : W.Frag} {C : Addr} {M : Model} {h : Heap} (X : K.In h) (e : (W.clsIn K C).isSome = true) : W.Looks M h (isType (.ref C)) true := by
 unfold W.clsIn at e
 split at e
 · rename_i c d cd sl look
   intro A' Q' E' s' k q
   unfold isType loadHead
   exact wpAny_bind (wpAny_loadPart (k _ _ (X _ _ look)) (wpAny_pure q))
 · cases e
def Tn (a C : Addr) (h : Heap) : Prop := ∃ o, h.get? a = some o ∧ o.cls = .ref C
section
variable {prog : Program} {w : World} {A : Around} {E : Value → Shared → Prop} {K : W.Frag} {h : Heap} {g : Array GenState} {d : Drawn} {t : Nat} {os : OsState} {a C : Addr} {o : Obj}
theorem ST {M : Model} (p : Tn a C h) : W.Looks M h (typeOf (.ref a)) (.ref C) := by
 obtain ⟨o, e, c⟩ := p
 exact c ▸ (W.Looks.ld e).andThen .now
theorem err_get {R : Result → Shared → Prop} (X : K.In h) (c : ExcC K C) (p : Tn a C h) (hq : R (.ok (.ret (.ref C))) ⟨h, g, d, t, os⟩) :
   codeAny (model prog w) A (.call (.builtin "getset_descriptor.__get__") ⟨[.builtin "object.__class__", .ref a, .ref C], []⟩) R ⟨h, g, d, t, os⟩ := by
 have L0 := ST (M := model prog w) p
 have L1 := W.looks_mroIn (M := model prog w) X c.mo
 have hT5 : (⟨h, g, d, t, os⟩ : Shared).TypeIs (.builtin "object.__class__") "getset_descriptor" := F.typeOf_object_class
 refine codeAny_call_builtin F.slot_gs_get.plain F.entry_gs_get (F.slot_gs_get.check _ _ _ _ _ _ _ _ hT5 (F.args_gs_get _ _ _) ?_)
 have ho := F.owner_object_class
 rw [← ho] at L1
 repeat (any_goals (first | assumption | with_reducible refine W.Looks.at L0 ?_ | with_reducible refine W.Looks.at L1 ?_ | wp_step))
 refine ⟨Code.quiet_builtin _ (by decide +kernel), codeAny_builtin F.entry_object_class ?_⟩
 repeat (any_goals (first | assumption | with_reducible refine W.Looks.at L0 ?_ | with_reducible refine W.Looks.at L1 ?_ | wp_step))
theorem err_entry {tk : Tok} {Q : Fin → Shared → Prop} (X : K.In h) (c : ExcC K C) (p : Tn a C h) (hq : Q (.done (.ret (.ref C))) ⟨h, g, d, t, os⟩) :
   wpAny (model prog w) A (Builtin.«object.__getattribute__» ⟨[.ref a, .str "__class__" tk], []⟩) Q E ⟨h, g, d, t, os⟩ := by
 have L0 := ST (M := model prog w) p
 have L2 := W.looks_findIn (M := model prog w) X c.gc
 have hT5 : (⟨h, g, d, t, os⟩ : Shared).TypeIs (.builtin "object.__class__") "getset_descriptor" := F.typeOf_object_class
 have f5 := F.typeOf_object_class
 have f6 := F.slot_gs_get.lookup
 have f7 := F.slot_gs_set.lookup
 repeat (any_goals (first | assumption | with_reducible refine W.Looks.at L0 ?_ | with_reducible refine W.Looks.at L2 ?_ | wp_step))
 refine err_get X c p ?_
 repeat (any_goals (first | assumption | wp_step))
theorem err_check {M : Model} {nameV : Value} {Q : Unit → Shared → Prop} (X : K.In h) (c : ExcC K C) (p : Tn a C h) (hq : Q () ⟨h, g, d, t, os⟩) : wpAny M A (checkBuiltinCall "BaseException.__getattribute__" ⟨[.ref a, nameV], []⟩) Q E ⟨h, g, d, t, os⟩ := by
 have hk : builtinKind "BaseException.__getattribute__" = some .slot := by decide +kernel
 have hsplit : splitId "BaseException.__getattribute__" = some ("BaseException", "__getattribute__") := by decide +kernel
 have L0 := ST (M := M) p
 have L1 := W.looks_mroIn (M := M) X c.mb
 have ha := F.args_bexc_ga (.ref a) nameV
 simp only [checkBuiltinCall, hk, hsplit]
 refine wpAny_bind ?_
 unfold isInstance
 repeat (any_goals (first | with_reducible refine W.Looks.at L0 ?_ | with_reducible refine W.Looks.at L1 ?_ | wp_step))
 exact hq
theorem err_call {tk : Tok} {R : Result → Shared → Prop} (X : K.In h) (c : ExcC K C) (p : Tn a C h) (hq : R (.ok (.ret (.ref C))) ⟨h, g, d, t, os⟩) :
   codeAny (model prog w) A (.call (.builtin "BaseException.__getattribute__") ⟨[.ref a, .str "__class__" tk], []⟩) R ⟨h, g, d, t, os⟩ :=
 codeAny_call_builtin F.attr_ValueError.ga.plain F.entry_bexc_ga (err_check X c p (err_entry X c p hq))
theorem err_by {tk : Tok} {Q : Value → Shared → Prop} (X : K.In h) (c : ExcC K C) (p : Tn a C h) (hq : Q (.ref C) ⟨h, g, d, t, os⟩) : wpAny (model prog w) A (getAttrBy (.ref a) (.str "__class__" tk) false) Q E ⟨h, g, d, t, os⟩ := by
 have L0 := ST (M := model prog w) p
 have L1 := W.looks_findIn (M := model prog w) X c.ga
 have L2 := W.looks_findIn (M := model prog w) X c.gn
 have f3 := F.attr_ValueError.ga.bind (.ref a)
 have hx2 : (Value.builtin "BaseException.__getattribute__" == Value.builtin "object.__getattribute__") = false := by decide +kernel
 have hx1 : (onTheHeap (Value.ref C) && Value.builtin "BaseException.__getattribute__" == Value.builtin "object.__getattribute__") = false := by rw [hx2]; rfl
 repeat (any_goals (first | assumption | with_reducible refine W.Looks.at L0 ?_ | with_reducible refine W.Looks.at L1 ?_ | with_reducible refine W.Looks.at L2 ?_ | wp_step))
 refine err_call X c p ?_
 repeat (any_goals (first | assumption | wp_step))
theorem err_attr {Q : Option Value → Shared → Prop} (X : K.In h) (c : ExcC K C) (p : Tn a C h) (hq : Q (some (.ref C)) ⟨h, g, d, t + 1, os⟩) : wpAny (model prog w) A (getAttr? (.ref a) "__class__") Q E ⟨h, g, d, t, os⟩ := by
 unfold getAttr? getAttrBy?
 repeat (any_goals (first | assumption | with_reducible apply err_by X c p | wp_step))
theorem kitx_err (c : ExcC K C) : W.KitX K (.ref a) (.ref C) (Tn a C) where
 ty := fun M h _ p => ST p
 it := fun M h X _ => isT_of X c.cl
 ne := fun h tp dd its n sl X htp => by
   refine Bool.eq_false_iff.mpr fun q => ?_
   have e : C = tp := Value.ref.inj (beq_iff_eq.mp q)
   subst e
   have z := c.cl
   unfold W.clsIn at z
   split at z
   · rename_i c' d' cd' sl' ho
     have y := (X _ _ ho).symm.trans htp
     cases y
   · cases z
 ca := fun {_ _ _ _ _ s} X p k => by
   obtain ⟨h, g, d, t, os⟩ := s
   exact err_attr X c p k
end
section
variable {X : Cx}
def rIsiE (K : W.Frag) : List V → Hp → VK → Prop := fun xs H Q => ∃ a C c cv b, xs = [.ref a, c] ∧ H a = some (excO a (.ref C)) ∧ ExcC K C ∧ clsV c = some cv ∧ W.kitOne K (.ref C) cv = some b ∧ Q (.bl b) H
theorem Inv.err {pins : List (Addr × Obj)} {σ : St} {H : Hp} {s : Shared} {a C : Addr} (I : Inv X pins σ H s) (e : H a = some (excO a (.ref C))) : Tn a C s.heap := by
 obtain ⟨⟨o, vs, h1, h2, _⟩, _⟩ := (show ObjOk X.prog X.w H s.heap a (excO a (.ref C)) from I.hok a _ e)
 exact ⟨o, h1, h2⟩
theorem Xe : VC X (.builtin "isinstance") (rIsiE X.K) := by
 intro pins s σ H xs us Q I r h
 obtain ⟨a, C, c, cv, b, rfl, ea, ec, rc, e, q⟩ := h
 obtain ⟨u, u', rfl, ru, ru'⟩ := vals2 r
 cases clsV_rel rc ru'
 cases (show u = Value.ref a from ru)
 exact W.kia_one (kitx_err ec) I.kIn (I.err ea) e (fun z => nomatch z) fun tk => ⟨.bl b, H, I.tok _, rfl, q⟩
end
end L2
end
section
namespace L2
open PySem PySem.Spec PyProof.Rows PySem.SeqAt
section
variable {X : Cx}
def rSumI (K : W.Frag) : List V → Hp → VK → Prop := fun xs H Q => ∃ (a : Addr) (ns : List Int), xs = [.ref a] ∧ SqL K H a (ns.map V.int) ∧ Q (.int ns.sum) H
theorem call_sumI (hc : X.calm = true) : VC X (.builtin "sum") (rSumI X.K) := by
 intro pins s σ H xs us Q I r h
 obtain ⟨a, ns, rfl, hq, k⟩ := h
 obtain ⟨u, rfl, ru⟩ := VZ r
 cases ru
 obtain ⟨its, rv, pl, hz⟩ := I.list hq
 have hI := UV rv
 obtain ⟨ys, e⟩ := hI.allInts.items
 refine PySem.sum_intListG (I.ok.hd hc) (e ▸ pl.isList) fun h' tk t' kk => ⟨.int ns.sum, H, I.kept kk, ⟨t', ?_⟩, k⟩
 have e2 : ns = ys.toList.map (·.1) := by
   rw [← nums_intItems, ← e]
   exact hI.numsOf.symm
 rw [preSum_eq, List.take_of_length_le (by simp), e2]
theorem bools_at {bs : List Bool} : ∀ {us : List Value}, Vals (bs.map V.bl) us → us = bs.map Value.bool := by
 induction bs with
 | nil => intro us r; cases r; rfl
 | cons b bs ih =>
   intro us r
   cases r with
   | cons r1 r2 => rw [ih r2, List.map_cons, show _ = Value.bool b from r1]
def isTr (y : Value) : Bool := match y with | .bool b => b | _ => false
theorem countP_tr (bs : List Bool) : (bs.map Value.bool).countP isTr = bs.count true := by
 induction bs with
 | nil => rfl
 | cons b bs ih =>
   rw [List.map_cons, List.countP_cons, List.count_cons, ih]
   cases b <;> rfl
theorem eqAt_tr {A : Around} {s : Shared} {bs : List Bool} {y : Value} (h : y ∈ bs.map Value.bool) : EqAt A s y (.bool true) (isTr y) := by
 obtain ⟨b, _, rfl⟩ := List.mem_map.mp h
 have z := EqAt.bool_bool (A := A) (s := s) b true
 cases b <;> exact z
def rCountT (K : W.Frag) : V → List V → Hp → VK → Prop := fun x xs H Q => ∃ (a : Addr) (bs : List Bool), x = .ref a ∧ xs = [.bl true] ∧ SqL K H a (bs.map V.bl) ∧ Q (.int (bs.count true)) H
theorem RG : MtR X "list.count" (rCountT X.K) := by
 intro pins s σ H x xs v us Q I rx r h
 obtain ⟨a, bs, rfl, rfl, hq, k⟩ := h
 obtain ⟨u, rfl, ru⟩ := VZ r
 cases (show v = Value.ref a from rx)
 cases (show u = Value.bool true from ru)
 obtain ⟨its, rv, pl, hz⟩ := I.list hq
 cases bools_at rv
 obtain ⟨⟨cls, dd, data, sl⟩, ho, hc, n, hd⟩ := pl.isList
 simp only at hc hd
 subst hc hd
 refine call_meets F.slot_list_count ⟨_, ho, rfl⟩ F.entry_list_count (F.args_list_count_2 _ _) (list_countAt a _ n dd sl (.bool true) isTr) ⟨ho, fun y hy => eqAt_tr (by simpa using hy), ?_⟩
 show EP X pins σ Q _ _
 exact ⟨.int (bs.count true), H, I.tok _, ⟨s.toks, by rw [show ((bs.map Value.bool).toArray.toList) = bs.map Value.bool from rfl, countP_tr]⟩, k⟩
def rIndexT (K : W.Frag) : V → List V → Hp → VK → Prop := fun x xs H Q => ∃ (a : Addr) (bs : List Bool) (j : Nat), x = .ref a ∧ xs = [.bl true] ∧ SqL K H a (bs.map V.bl) ∧ bs.length ≤ 1000 ∧ bs[j]? = some true ∧ (∀ m, m < j → bs[m]? = some false) ∧ Q (.int (j : Int)) H
theorem RF : MtR X "list.index" (rIndexT X.K) := by
 intro pins s σ H x xs v us Q I rx r h
 obtain ⟨a, bs, j, rfl, rfl, hq, hl, hj, hm, k⟩ := h
 obtain ⟨u, rfl, ru⟩ := VZ r
 cases (show v = Value.ref a from rx)
 cases (show u = Value.bool true from ru)
 obtain ⟨its, rv, pl, hz⟩ := I.list hq
 cases bools_at rv
 obtain ⟨⟨cls, dd, data, sl⟩, ho, hc, n, hd⟩ := pl.isList
 simp only at hc hd
 subst hc hd
 have hlt : j < bs.length := (List.getElem?_eq_some_iff.mp hj).1
 refine call_meets F.slot_list_index ⟨_, ho, rfl⟩ F.entry_list_index (F.args_list_index_2 _ _) (list_indexAt a _ n dd sl (.bool true) isTr j (by simpa using hlt) (by omega) ?_ ?_) ⟨ho, fun y hy => eqAt_tr (by simpa using hy), ?_⟩
 · obtain ⟨_, e⟩ := List.getElem?_eq_some_iff.mp hj
   simp [e, isTr]
 · intro m hm1 hm2
   obtain ⟨_, e⟩ := List.getElem?_eq_some_iff.mp (hm m hm2)
   simp [e, isTr]
 · exact ⟨.int j, H, I.tok _, ⟨_, rfl⟩, k⟩
def leP (p q : Int × Int) : Prop := p.1 < q.1 ∨ (p.1 = q.1 ∧ p.2 ≤ q.2)
theorem lexLt_pair (p q : Int × Int) : HT.lexLt [p.1, p.2] [q.1, q.2] = decide (p.1 < q.1 ∨ (p.1 = q.1 ∧ p.2 < q.2)) := by
 by_cases h1 : p.1 = q.1
 · by_cases h2 : p.2 = q.2
   · simp [HT.lexLt, h1, h2]
   · simp [HT.lexLt, h1, h2]
 · simp [HT.lexLt, h1]
def rMinP (K : W.Frag) : List V → Hp → VK → Prop := fun xs H Q => ∃ (a : Addr) (rs : List (Addr × Int × Int)), xs = [.ref a] ∧ SqL K H a (rs.map fun r => V.ref r.1) ∧ rs ≠ [] ∧ (∀ r ∈ rs, SqT K H r.1 [.int r.2.1, .int r.2.2]) ∧ ∀ r ∈ rs, (∀ r' ∈ rs, leP r.2 r'.2) → Q (.ref r.1) H
theorem RP (hc : X.calm = true) (hu : X.A.units + 1 < cLine) : VC X (.builtin "min") (rMinP X.K) := by
 intro pins s σ H xs us Q I r h
 obtain ⟨a, rs, rfl, hq, hne, hT, k⟩ := h
 obtain ⟨u, rfl, ru⟩ := VZ r
 cases ru
 obtain ⟨its, rv, pl, hz⟩ := I.list hq
 have e1 := rv.length
 rw [List.length_map] at e1
 have at_ : ∀ (i : Nat) v, its.toArray[i]? = some v → ∃ r, rs[i]? = some r ∧ v = .ref r.1 := fun i v e => by
   have e' : its[i]? = some v := by simpa using e
   have hi : i < its.length := (List.getElem?_eq_some_iff.mp e').1
   have hi' : i < rs.length := by omega
   obtain ⟨u, hu, hr⟩ := rv.get (i := i) (x := V.ref rs[i].1) (by simp [hi'])
   rw [e'] at hu
   cases hu
   exact ⟨rs[i], by simp [hi'], hr⟩
 have tup : ∀ r ∈ rs, ∃ vs : List Value, IsTup s.heap r.1 vs.toArray ∧ IntsAre vs [r.2.1, r.2.2] := fun r hr => by
   obtain ⟨vs, rv', p, _⟩ := I.tuple (hT r hr)
   exact ⟨vs, p, UV (ns := [r.2.1, r.2.2]) rv'⟩
 let f : Nat → Int × Int := fun i => (rs[i]?.map (·.2)).getD (0, 0)
 have hlen : 0 < rs.length := List.length_pos_iff.mpr hne
 have fz : ∀ (i : Nat) r, rs[i]? = some r → f i = r.2 := fun i r e => by simp [f, e]
 refine min_listG (Gd := fun h => ∀ b o, s.heap.get? b = some o → h.get? b = some o) (bt := fun i j => decide ((f i).1 < (f j).1 ∨ ((f i).1 = (f j).1 ∧ (f i).2 < (f j).2))) (I.ok.hd hc) pl.isList (by simp; omega) (fun i j vi vj s' Q' E' hg hi hj q => ?_) (fun _ _ e => e) (fun h h' g kk b o e => kk b o (Heap.lt_size e) (g b o e)) fun v h' tk hv kk => ?_
 · obtain ⟨r1, hr1, rfl⟩ := at_ i vi hi
   obtain ⟨r2, hr2, rfl⟩ := at_ j vj hj
   obtain ⟨vs1, ⟨o1, p1, p2⟩, i1⟩ := tup r1 (List.mem_of_getElem? hr1)
   obtain ⟨vs2, ⟨o2, p3, p4⟩, i2⟩ := tup r2 (List.mem_of_getElem? hr2)
   have z := HT.lt_tupInts (prog := X.prog) (w := X.w) (A := X.A.in1) (E := E') (s := s') (Q := Q') (l := r1.1) (b := r2.1) (items := vs1.toArray) (items2 := vs2.toArray) ⟨o1, hg _ _ p1, p2⟩ ⟨o2, hg _ _ p3, p4⟩ (by simpa using i1) (by simpa using i2) hu (by
     rw [lexLt_pair r1.2 r2.2]
     have q1 : f i = r1.2 := by simp [f, hr1]
     have q2 : f j = r2.2 := by simp [f, hr2]
     rw [← q1, ← q2]
     exact q)
   exact z
 · obtain ⟨r0, hr0, rfl⟩ := at_ _ v hv
   obtain ⟨b1, b2⟩ := Tl f leP (fun i j => decide ((f i).1 < (f j).1 ∨ ((f i).1 = (f j).1 ∧ (f i).2 < (f j).2))) (fun x => .inr ⟨rfl, Int.le_refl _⟩) (fun x y z h1 h2 => by unfold leP at *; omega)
     (fun i j z => by have := of_decide_eq_true z; unfold leP; omega) (fun i j z => by have := of_decide_eq_false z; unfold leP; omega) (its.toArray.size - 1)
   refine ⟨.ref r0.1, H, I.kept kk, rfl, k r0 (List.mem_of_getElem? hr0) fun r' hr' => ?_⟩
   obtain ⟨i, hi, rfl⟩ := List.mem_iff_getElem.mp hr'
   have z := b2 i (by have : its.toArray.size = rs.length := by simp; omega
                      omega)
   have q1 : f (argBest (fun i j => decide ((f i).1 < (f j).1 ∨ ((f i).1 = (f j).1 ∧ (f i).2 < (f j).2))) (its.toArray.size - 1)) = r0.2 := fz _ _ hr0
   have q2 : f i = rs[i].2 := by simp [f, hi]
   rw [q1, q2] at z
   exact z
end
theorem vals_by : ∀ {xs : List V} {us : List Value}, us.length = xs.length → (∀ (j : Nat) u, us[j]? = some u → ∃ x, xs[j]? = some x ∧ RelV x u) → Vals xs us
 | [], [], _, _ => .nil
 | [], _ :: _, h, _ => by simp at h
 | _ :: _, [], h, _ => by simp at h
 | x :: xs, u :: us, h, f => by
   obtain ⟨y, e, r⟩ := f 0 u rfl
   simp at e
   subst e
   exact .cons r (vals_by (by simpa using h) fun j v hj => f (j + 1) v (by simpa using hj))
section
variable {prog : Program} {w : World} {A : Around} {E : Value → Shared → Prop} {s : Shared} {T : String} {r d : Addr} {n : Nat} {P : Nat → Value → Prop} {OK : Heap → Prop}
theorem collect_src {Q : List Value → Shared → Prop} (K : W.KdlSrc prog w T r d n P OK) (hh : A.handled = none) (hok : OK s.heap) (hn : n ≤ sizeLine)
   (h : ∀ (h' : Heap) tk (vs : List Value), (∀ b o, s.heap.get? b = some o → h'.get? b = some o) → vs.length = n → (∀ (j : Nat) v, vs[j]? = some v → P j v) → Q vs { s with heap := h', toks := tk }) :
   wpAny (model prog w) A (collect (.ref r)) Q E s := by
 have lt := K.there _ hok
 have key : ∀ R : Result → Shared → Prop, (∀ (h' : Heap) (tk : Nat) (acc : Array Value) (c : Nat), (∀ b o, b ≠ s.heap.objs.size → (s.heap.push (seqObj "list" #[] 0)).get? b = some o → h'.get? b = some o) → h'.get? s.heap.objs.size = some { cls := .type "list", dict := none, data := .seq acc c, slots := #[] } → ItemsOf P acc n →
     R (.ok (.ret (.ref s.heap.objs.size))) { s with heap := h', toks := tk }) → codeAny (model prog w) A (.builtin "list.__iadd__" ⟨[.ref s.heap.objs.size, .ref r], []⟩) R { s with heap := s.heap.push (seqObj "list" #[] 0) } := fun R hR => by
   refine codeAny_builtin entry_list_iadd' ?_
   rw [Around.under_plainId (by decide +kernel) _]
   exact W.kdl_extend (s := { s with heap := s.heap.push (seqObj "list" #[] 0) }) K hh (K.keep _ _ hok fun b _ o e => Heap.get?_push_of_some _ e) s.heap.objs.size (Nat.ne_of_gt lt.1) (Nat.ne_of_gt lt.2) _ 0 (Heap.get?_push_size _ rfl) hR hn
 unfold collect
 refine wpAny_bind (wpAny_runValue (codeAny_builtin entry_proto_collect' ?_))
 show wpAny _ _ (do again (.builtin "list.__iadd__" ⟨[← newList [], .ref r], []⟩)) _ _ s
 refine wpAny_bind (wpAny_newList (wpAny_pure ⟨Code.quiet_builtin _ (by decide +kernel), key _ fun h' tk acc c kk hS hacc => ?_⟩))
 refine wpAny_bind (wpAny_load hS ?_)
 refine wpAny_pure (h h' tk acc.toList (fun b o e => kk b o (Nat.ne_of_lt (Heap.lt_size e)) (Heap.get?_push_of_some _ e)) ?_ fun j v e => ?_)
 · rw [Array.length_toList]; exact hacc.1
 · exact hacc.2 j v (by rw [← Array.getElem?_toList]; exact e)
theorem sorted_src {Q : Value → Shared → Prop} (K : W.KdlSrc prog w T r d n P OK) (hh : A.handled = none) (hok : OK s.heap) (hn : n < 64) (hP : ∀ vs : List Value, vs.length = n → (∀ (j : Nat) v, vs[j]? = some v → P j v) → ∃ ns, IntsAre vs ns ∧ ∀ (h' : Heap) tk (vs' : List Value) (ns' : List Int) (a : Addr) (e : Nat) (h1 : Heap), (∀ b o, s.heap.get? b = some o → h1.get? b = some o) →
     h1.objs.size ≤ a → (∀ b o, h1.get? b = some o → h'.get? b = some o) → h'.get? a = some (seqObj "list" vs'.toArray e) → IntsAre vs' ns' → ns'.Perm ns → ns'.Pairwise (· ≤ ·) → Q (.ref a) { s with heap := h', toks := tk }) :
   wpAny (model prog w) A (call (.builtin "sorted") [.ref r]) Q E s := by
 refine Calls.call_function_entry kind_sorted plain_sorted entry_sorted (args_sorted1 _) ?_
 unfold Builtin.«sorted»
 refine wpAny_bind (m := checkCount "sorted" 1 1 _) (wpAny_pure ?_)
 refine wpAny_bind (collect_src K hh hok (Nat.le_trans (Nat.le_of_lt hn) (by decide)) fun h1 tk vs kk hl hv => ?_)
 obtain ⟨ns, hI, fin⟩ := hP vs hl hv
 refine wpAny_bind (wpAny_newList ?_)
 have hoL : (h1.push (seqObj "list" vs.toArray 0)).get? h1.objs.size = some (seqObj "list" vs.toArray 0) := Heap.get?_push_size _ rfl
 refine wpAny_bind (wpAny_holding (wpAny_call_entry slot_list_sort ⟨_, hoL, rfl⟩ entry_list_sort (list_sort_tree hoL hI (by omega) fun out ns' a1 a2 a3 => ⟨_, rfl, ?_⟩) (args_list_sort _)))
 obtain ⟨e, he⟩ := sortedHeap_at (out := out) hoL
 refine wpAny_pure ⟨_, rfl, fin _ tk out.toList ns' h1.objs.size e h1 kk (Nat.le_refl _) (fun b o q => ?_) (by simpa using he) a1 a2 a3⟩
 have z := Heap.get?_push_of_some (seqObj "list" vs.toArray 0) q
 have hb : b ≠ h1.objs.size := Nat.ne_of_lt (Heap.lt_size q)
 rw [sortedHeap_old hb (Heap.lt_size z)]
 exact z
end
section
variable {X : Cx}
def rSortedD : List V → Hp → VK → Prop := fun xs H Q => ∃ (a : Addr) (kvs : List (Int × V)), xs = [.ref a] ∧ H a = some (.dK (kvs.map fun p => (Sum.inl p.1, p.2))) ∧ kvs.length < 64 ∧
 ∀ ns' : List Int, ns'.Perm (kvs.map (·.1)) → ns'.Pairwise (· ≤ ·) → ∀ p, H p = none → Q (.ref p) (upd H p (.lst (ns'.map V.int)))
theorem VY (hc : X.calm = true) : VC X (.builtin "sorted") rSortedD := by
 intro pins s σ H xs us Q I r h
 obtain ⟨a, kvs, rfl, ha, hl', k⟩ := h
 obtain ⟨u, rfl, ru⟩ := VZ r
 cases ru
 obtain ⟨z, hd, vs, rv, dd⟩ := SV I.hok ha
 have hlen : kvs.length = vs.length := by rw [← Paired.length rv, List.length_map]
 obtain ⟨o, es, ep, ho, hr⟩ := id dd
 have da : s.heap.DictAt (ZH X.prog X.w) a vs ep := ⟨o, es, ho, hr⟩
 refine sorted_src (W.kdl_dict (kvs := vs) (ep := ep) hd) (I.ok.hd hc) da (by omega) fun us hl hv => ⟨kvs.map (·.1), ?_, fun h' tk vs' ns' p e h1 k1 hp k2 hat hi hperm hpw => ?_⟩
 · refine UV (vals_by (by rw [List.length_map, List.length_map]; omega) fun j v hj => ?_)
   obtain ⟨kk, x, h1, h2⟩ := hv j v hj
   have hlt : j < kvs.length := by
     have := (List.getElem?_eq_some_iff.mp hj).1
     omega
   obtain ⟨w, hw, _⟩ := KV.at rv (i := j) (k := Sum.inl kvs[j].1) (v := kvs[j].2) (by simp [hlt])
   rw [h1] at hw
   cases hw
   exact ⟨.int kvs[j].1, by simp [hlt], kV_of h2⟩
 · have I1 : Inv X pins σ H { s with heap := h1, toks := tk } := I.kept k1
   refine ⟨.ref p, _, I1.laid (o := .lst (ns'.map V.int)) (t' := tk) k2 hp ⟨?_, vs', e, Tp hi, hat⟩, rfl, k ns' hperm hpw p (I1.hok.fresh hp)⟩
   rw [List.length_map, hperm.length_eq, List.length_map]
   exact Nat.le_trans (Nat.le_of_lt hl') (by decide)
end
end L2
end
section
namespace L2
open PySem PySem.Spec PyProof.Rows PySem.SeqAt
abbrev TF := St → Hp → (Hp → Prop) → Prop
def PFs (X : Cx) (es : List Expr) (t : TF) : Prop :=
 ∀ (pins : List (Addr × Obj)) (s : Shared) (σ : St) (H : Hp) (out : Str) (Q : VK), Inv X pins σ H s → out.length + 2000 * es.length ≤ sizeLine → t σ H (fun H' => ∀ y, Q (.str y) H') →
   wpAny (model X.prog X.w) X.A (joinParts out (evalEach es X.env)) (EP X pins σ Q) X.xe s
section
variable {X : Cx} {e : Expr} {es : List Expr} {te : TE} {t : TF} {pos : Pos}
theorem Uj : PFs X [] (fun _ H Q => Q H) := fun pins s σ H out Q I hz h =>
 joinParts_nil (s := s) ⟨.str out, H, I.tok _, ⟨_, rfl⟩, h out⟩ (by simp at hz; exact hz)
theorem YO {x j p} (hr : PFs X es t) (hx : x.length ≤ 2000 := by decide) : PFs X (.Constant (.str x) j p :: es) t := fun pins s σ H out Q I hz h => by
 have hz2 : out.length + 2000 * (es.length + 1) ≤ sizeLine := hz
 have e1 : (out ++ x).length = out.length + x.length := strLen_append _ _
 show wpAny _ _ (joinParts out (eval (.Constant (.str x) j p) X.env :: evalEach es X.env)) _ _ s
 refine joinParts_cons (Calls.Constant_str ⟨by rw [e1]; omega, ?_⟩)
 exact hr pins _ σ H _ Q (I.tok _) (by rw [e1]; omega) h
theorem len_small {a : Int} (h : a.natAbs.log2 < 1920) : (toString a : Str).length ≤ 2000 := by
 have e := int_text_length_le (k := 1920) (by decide) h
 show (Str.ofString (toString a)).length ≤ 2000
 rw [PySem.ofString_length]
 omega
theorem XX {p : Pos} (he : PE X e te) (hr : PFs X es t) : PFs X (.FormattedValue e (-1) none p :: es) (fun σ H Q => te σ H fun x H1 => ∃ i, x = .int i ∧ i.natAbs.log2 < 1920 ∧ t σ H1 Q) := fun pins s σ H out Q I hz h => by
 have hz2 : out.length + 2000 * (es.length + 1) ≤ sizeLine := hz
 show wpAny _ _ (joinParts out (eval (.FormattedValue e (-1) none p) X.env :: evalEach es X.env)) _ _ s
 refine joinParts_cons (FormattedValue_plain (thn (he pins s σ H _ I h) fun u s1 ⟨x, H1, I1, r1, i, e1, hs, q⟩ => ?_))
 subst e1
 obtain ⟨tk, rfl⟩ := r1
 have e2 : (out ++ (toString i : Str)).length = out.length + (toString i : Str).length := strLen_append _ _
 have e3 := len_small hs
 refine formatField_int_small hs ⟨by rw [e2]; omega, ?_⟩
 exact hr pins _ σ H1 _ Q ((I1.tok _).tok _) (by rw [e2]; omega) q
def tFStr (t : TF) : TE := fun σ H Q => t σ H (fun H' => ∀ y, Q (.str y) H')
theorem Vu {e2 : Expr} (h : PFs X (e :: e2 :: es) t) (hz : 2000 * (e :: e2 :: es).length ≤ sizeLine := by decide) : PE X (.JoinedStr (e :: e2 :: es) pos) (tFStr t) := fun pins s σ H Q I hq =>
 JoinedStr_many (h pins s σ H Str.empty Q I (by show 0 + _ ≤ _; omega) hq)
end
section
variable {X : Cx}
theorem Vals.ins {xs : List V} {us : List Value} {y : V} {u : Value} (h : Vals xs us) (r : RelV y u) (k : Nat) : Vals (xs.take k ++ y :: xs.drop k) (us.take k ++ u :: us.drop k) := (h.take k).append (.cons r (h.drop k))
def rInsert : V → List V → Hp → VK → Prop := fun x vs H Q => ∃ l xs i y, x = .ref l ∧ vs = [.int i, y] ∧ H l = some (.lst xs) ∧ 0 ≤ i ∧ i ≤ xs.length ∧ xs.length < sizeLine ∧ Q .non (upd H l (.lst (xs.take i.toNat ++ y :: xs.drop i.toNat)))
theorem mt_insert : MtM X "list.insert" rInsert := by
 intro pins s σ H x vs v us Q I rx rv h
 obtain ⟨l, xs, i, y, rfl, rfl, hH, h1, h2, hz, q⟩ := h
 cases rx
 obtain ⟨u, v, rfl, ru, rvv⟩ := rv.two
 obtain ⟨t, rfl⟩ := ru
 obtain ⟨z, its, n, r, hl, e⟩ := I.lstM hH
 have b1 : xs.length < 2 ^ 24 := hz
 refine call_meets F.slot_list_insert ⟨_, e, rfl⟩ F.entry_list_insert (F.args_list_insert_3 _ _ _)
   (PySem.AutoSeq1.list_insert_list_int_val_1 l its.toArray n i t v (by rw [show Builtin.List.listFitsIndex i = true from fitsIndex_both (by omega) (by omega)]; simp) (by rw [List.size_toArray]; omega)) ⟨e, ?_⟩
 refine ⟨.non, _, I.lset (its' := its.take i.toNat ++ v :: its.drop i.toNat) hH e ?_ (r.ins rvv i.toNat) ?_, rfl, q⟩
 · show (its.toArray.extract 0 (if i < 0 then (i + (its.toArray.size : Int)).toNat else min i.toNat its.toArray.size)).push v ++ its.toArray.extract (if i < 0 then (i + (its.toArray.size : Int)).toNat else min i.toNat its.toArray.size) = _
   rw [if_neg (by omega), List.size_toArray, Nat.min_eq_left (by omega)]
   exact W.kl_ins_eq its i.toNat v
 · rw [List.length_append, List.length_cons, List.length_take, List.length_drop]
   omega
end
section
variable {prog : Program} {w : World} {A : Around} {E : Value → Shared → Prop} {s : Shared}
theorem TY {it l : Addr} {i : Nat} {items : Array Value} {x : Value} {Q : Value → Shared → Prop} (hit : s.heap.IsTupleIter it l i) (hl : s.heap.IsTuple l items) (hx : items[i]? = some x)
   (hQ : ∀ h', h'.IsTupleIter it l (i + 1) → Heap.SameBut it s.heap h' → Q x { s with heap := h' }) : wpAny (model prog w) A (Builtin.SmallTypes.nextOf (.ref it)) Q E s := by
 obtain ⟨o, ho, hc, hd⟩ := id hit
 obtain ⟨ol, hol, _, nl, hdl⟩ := hl
 unfold Builtin.SmallTypes.nextOf
 refine wpAny_bind (wpAny_callSpecial?_slot (name := Str.ofString "__next__") hit.typeIs F.slot_tuple_iterator_next (wpAny_call_entry F.slot_tuple_iterator_next hit.typeIs F.entry_tuple_iterator_next ?_ (F.args_tuple_iterator_next_1 _)))
 show wpAny _ _ (field (.ref it) 0 >>= _) _ _ s
 refine wpAny_bind (wpAny_field ho hd (x := .ref l) rfl ?_)
 show wpAny _ _ (if (Value.ref l == Value.none) = true then _ else _) _ _ s
 rw [if_neg (show ¬ ((Value.ref l == Value.none) = true) from Bool.false_ne_true)]
 show wpAny _ _ (field (.ref it) 1 >>= _) _ _ s
 refine wpAny_bind (wpAny_field ho hd (x := .int i 0) rfl ?_)
 show wpAny _ _ (seqItems? (.ref l) >>= _) _ _ s
 refine wpAny_bind (wpAny_seqItems hol hdl ?_)
 simp only [Int.toNat_natCast, hx]
 refine wpAny_bind (wpAny_setField ho hd (by simp) (wpAny_pure ⟨x, rfl, wpAny_pure (hQ _ ?_ (Heap.SameBut.update ..))⟩))
 exact ⟨_, Heap.get?_update_self _ ho (Obj.isFreed_of_fields (Obj.data_mapFields hd _)), (Obj.cls_mapFields ..).trans hc, by
   rw [Obj.data_mapFields hd]; simp [rawInt]⟩
theorem Ur {it l : Addr} {i : Nat} {items : Array Value} {Q : Value → Shared → Prop} (hh : A.handled = none) (hit : s.heap.IsTupleIter it l i) (hl : s.heap.IsTuple l items) (hx : items[i]? = none)
   (hE : ∀ h' e, Heap.ExtBut it s.heap h' → (∃ o, h'.get? e = some o ∧ o.cls = .type "StopIteration") → E (.ref e) { s with heap := h' }) : wpAny (model prog w) A (Builtin.SmallTypes.nextOf (.ref it)) Q E s := by
 obtain ⟨o, ho, hc, hd⟩ := id hit
 obtain ⟨ol, hol, _, nl, hdl⟩ := hl
 unfold Builtin.SmallTypes.nextOf
 refine wpAny_bind (wpAny_callSpecial?_slot (name := Str.ofString "__next__") hit.typeIs F.slot_tuple_iterator_next (wpAny_call_entry F.slot_tuple_iterator_next hit.typeIs F.entry_tuple_iterator_next ?_ (F.args_tuple_iterator_next_1 _)))
 show wpAny _ _ (field (.ref it) 0 >>= _) _ _ s
 refine wpAny_bind (wpAny_field ho hd (x := .ref l) rfl ?_)
 show wpAny _ _ (if (Value.ref l == Value.none) = true then _ else _) _ _ s
 rw [if_neg (show ¬ ((Value.ref l == Value.none) = true) from Bool.false_ne_true)]
 show wpAny _ _ (field (.ref it) 1 >>= _) _ _ s
 refine wpAny_bind (wpAny_field ho hd (x := .int i 0) rfl ?_)
 show wpAny _ _ (seqItems? (.ref l) >>= _) _ _ s
 refine wpAny_bind (wpAny_seqItems hol hdl ?_)
 simp only [Int.toNat_natCast, hx]
 refine wpAny_bind (wpAny_rule (wpAny_bind (wpAny_setField ho hd (by simp) ?_)))
 show wpAny _ _ (newExc (.type "StopIteration") [] >>= _) _ _ _
 refine wpAny_bind ?_
 simp only [newExc, newTuple]
 refine wpAny_bind (wpAny_newObj_type ?_ (by size_fits))
 refine wpAny_bind (m := firstArgMember _ _) (wpAny_of_eq (a := Value.none) (by first | rfl | (simp only [firstArgMember]; rfl)) ?_)
 refine wpAny_newObj_type ?_ (by size_fits)
 simp only [raiseNew]
 refine wpAny_bind (wpAny_handled ?_)
 first | rw [show A.in1.handled = none from hh] | rw [hh]
 refine wpAny_bind (wpAny_pure (wpAny_throw ?_))
 exact hE _ _ (((Heap.SameBut.update ..).extBut.push _).push _) ⟨_, Heap.get?_push_size _ rfl, rfl⟩
theorem draws_tup (hh : A.handled = none) (it l : Addr) (hne : l ≠ it) (items : Array Value) : Draws prog w A it [it, l] items.size (fun i v => items[i]? = some v) (fun i h => h.IsTupleIter it l i ∧ h.IsTuple l items) where
 live := fun _ _ st => let ⟨o, ho, _⟩ := st.1; ⟨o, ho⟩
 frame := fun _ _ _ st hk => ⟨st.1.at fun o e => hk it (by simp) o e, let ⟨o, ho, r⟩ := st.2; ⟨o, hk l (by simp) o ho, r⟩⟩
 item := fun i s Q E hi st hQ => by
   refine TY st.1 st.2 (x := items[i]) (by simp [hi]) fun h' hit' hs' => ?_
   exact hQ _ h' s.toks (by simp [hi]) ⟨hit', st.2.extBut hs'.extBut hne⟩ hs'
 done := fun s Q E st hE => Ur hh st.1 st.2 (by simp) hE
open AutoSeq1 (wpAny_loadPart') in
theorem enum_newT (l : Addr) (items : Array Value) (n : Nat) (dct : Option Addr) (sl : Array (Option Value)) :
   Meets (Builtin.«enumerate.__new__» ⟨[.type "enumerate", .ref l], []⟩) (fun _ R s => s.heap.get? l = some { cls := .type "tuple", dict := dct, data := .seq items n, slots := sl } ∧
     R (.ok (.ret (.ref (s.heap.push { cls := .type "tuple_iterator", data := .fields #[.ref l, .int 0 0] }).objs.size)))
       { s with heap := (s.heap.push { cls := .type "tuple_iterator", data := .fields #[.ref l, .int 0 0] }).push { cls := .type "enumerate", data := .fields #[.none, .bool false, .ref s.heap.objs.size, rawInt 0, .none, .none] } }) :=
 .of_wp fun prog w A R s h => by
   obtain ⟨hp, g, d, tk, os⟩ := s; obtain ⟨hl, h⟩ := h
   have hsub := sub_enumerate
   have hL : Heap.IsTuple (Shared.heap ⟨hp, g, d, tk, os⟩) l items := ⟨_, hl, rfl, n, rfl⟩
   wp_walk using wpAny_loadPart' hl
   refine wpAny_stack_any fun st => wpAny_pure ?_
   split
   · rename_i c _ _ _ _ _
     cases (c == Value.type "enumerate")
     · wp_walk using wpAny_loadPart' hl, wpAny_pyIter_tuple hL
       exact ⟨_, rfl, h⟩
     · wp_walk using wpAny_loadPart' hl, wpAny_pyIter_tuple hL
       exact ⟨_, rfl, h⟩
   · wp_walk using wpAny_loadPart' hl, wpAny_pyIter_tuple hL
     exact ⟨_, rfl, h⟩
theorem call_enumT {l : Addr} {items : Array Value} {Q : Value → Shared → Prop} (hL : s.heap.IsTuple l items)
   (h : ∀ h', IsEnum h' (s.heap.objs.size + 1) s.heap.objs.size 0 .none → h'.IsTupleIter s.heap.objs.size l 0 → h'.objs.size = s.heap.objs.size + 2 →
     (∀ b o, s.heap.get? b = some o → h'.get? b = some o) → Q (.ref (s.heap.objs.size + 1)) { s with heap := h' }) :
   wpAny (model prog w) A (call (.type "enumerate") [.ref l]) Q E s := by
 obtain ⟨⟨c, dct, dt, sl⟩, hl, hc, n, hd⟩ := hL
 replace hc : c = .type "tuple" := hc
 replace hd : dt = .seq items n := hd
 subst hc hd
 refine callType_new F.called_enumerate (by decide) (F.typeCall_enumerate_1 _) (F.newCall_enumerate_1 _) (fun obj => F.args_object_init_2 obj _) F.entry_enumerate_new (enum_newT l items n dct sl) ⟨hl, ?_⟩
 have hz : (s.heap.push { cls := .type "tuple_iterator", data := .fields #[.ref l, .int 0 0] }).objs.size = s.heap.objs.size + 1 := Heap.size_push ..
 show _ ∧ _
 rw [hz]
 have he : IsEnum ((s.heap.push { cls := .type "tuple_iterator", data := .fields #[.ref l, .int 0 0] }).push
     { cls := .type "enumerate", data := .fields #[.none, .bool false, .ref s.heap.objs.size, rawInt 0, .none, .none] }) (s.heap.objs.size + 1) s.heap.objs.size 0 .none := by
   have := Heap.get?_push_size (s.heap.push { cls := .type "tuple_iterator", data := .fields #[.ref l, .int 0 0] })
     (o := { cls := .type "enumerate", data := .fields #[.none, .bool false, .ref s.heap.objs.size, rawInt 0, .none, .none] }) rfl
   rw [hz] at this; exact this
 refine ⟨⟨_, he, rfl⟩, h _ he ⟨_, Heap.get?_push_of_some _ (Heap.get?_push_size _ rfl), rfl, rfl⟩ (by rw [Heap.size_push, hz]) fun b o x => Heap.get?_push_of_some _ (Heap.get?_push_of_some _ x)⟩
end
end L2
end
section
namespace L2
open PySem PySem.Spec PyProof.Rows PySem.SeqAt
theorem Inv.turnedL {X : Cx} {pins : List (Addr × Obj)} {σ : St} {H : Hp} {s : Shared} {h' : Heap} {t' : Nat} {fp : List Addr} (I : Inv X pins σ H s) (k : ∀ b o, b ∉ fp → s.heap.get? b = some o → h'.get? b = some o) (hf : ∀ b ∈ fp, FpOk X pins H b) (there : ∀ b ∈ fp, ∃ o, h'.get? b = some o) :
   Inv X pins σ H { s with heap := h', toks := t' } := by
 have nit : ∀ b u, H b = some u → b ∉ fp := fun b u e z => by rw [(hf b z).1] at e; cases e
 refine I.step (g' := s.gens) (d' := s.drawn) (ch := fp) (fun b hb => ?_) (fun b o _ _ hc e _ => k b o hc e) (fun b o _ _ hc e _ => ⟨o.slots, k b o hc e⟩) (fun _ _ _ _ n => n)
   (fun b o hc e => ⟨o, k b o hc e⟩) (fun _ _ e => e) (fun _ _ _ e => e) (fun b ps e => ⟨#[], by rw [e]; simp⟩) (fun m hm => ?_) (fun b u e => ?_) I.bare
 · obtain ⟨f0, f1, f2, f3, f4, f5⟩ := hf b hb
   exact ⟨f3, f1, f4, f5⟩
 · obtain ⟨o, es, ep, ho, r⟩ := hm
   exact ⟨o, es, ep, k _ o (fun z => (hf _ z).2.1 rfl) ho, r⟩
 · refine (I.hok b u e).stay (fun c v hc q => k c v ?_ q) (fun _ q => q) fun _ _ q => q
   rcases hc with z | z
   · rw [z]; exact nit b u e
   · exact nit c _ z
def Ite (K : W.Frag) (a : Addr) : It :=
 ⟨fun i H => ∃ xs x, SqT K H a xs ∧ xs[i]? = some x, fun i H x H' => ∃ T y, H T = none ∧ H' = upd H T (.tup [.int i, y]) ∧ x = .ref T ∧ ∀ xs, SqT K H a xs → xs[i]? = some y, fun i H => ∃ xs, SqT K H a xs ∧ xs.length ≤ i⟩
theorem turn_enumT {P : Program} {w : World} {K : W.Frag} {elts : List Expr} {k : Nat} {tpos : Pos} (a it e : Addr) (hei : e ≠ it) : Turn P w K (.Tuple elts k tpos) (Ite K a) [e, it] e (fun i h => (∃ old, IsEnum h e it i old) ∧ h.IsTupleIter it a i) where
 mem := by simp
 obj := fun i h st b hb => by
   rcases List.mem_cons.mp hb with rfl | hb
   · obtain ⟨⟨old, q⟩, _⟩ := st
     exact ⟨_, q, fun v z => by
       have z' : Data.fields _ = Data.cell v := z
       cases z'⟩
   · have e' := List.mem_singleton.mp hb
     subst e'
     obtain ⟨_, o, q, c, d⟩ := st
     exact ⟨o, q, fun v z => by rw [d] at z; cases z⟩
 keep := fun i h h' st k => by
   obtain ⟨⟨old, q⟩, t⟩ := st
   exact ⟨⟨old, k e (by simp) _ q⟩, t.at fun o z => k it (by simp) o z⟩
 item := by
   intro X hP hw hK hc i pins s σ H E I hf st hg
   subst hP hw hK
   obtain ⟨xs, x, hq, hx⟩ := hg
   obtain ⟨its, rv, p, hz⟩ := I.tuple hq
   obtain ⟨u, hu, ru⟩ := rv.get hx
   obtain ⟨⟨old, he⟩, hit⟩ := st
   obtain ⟨f0, f1, f2, f3, f4, f5⟩ := hf e (by simp)
   obtain ⟨g0, g1, g2, g3, g4, g5⟩ := hf it (by simp)
   have pt : s.heap.IsTuple a its.toArray := p
   obtain ⟨oe, hoe, _⟩ := id hit
   have hal : a ≠ it := fun z => by
     subst z
     obtain ⟨o1, q1, c1, _⟩ := pt
     obtain ⟨o2, q2, c2, _⟩ := hit
     rw [q1] at q2
     cases q2
     rw [c1] at c2
     exact absurd c2 (by decide)
   have hae : a ≠ e := fun z => by
     subst z
     obtain ⟨o1, q1, c1, _⟩ := pt
     rw [show s.heap.get? a = _ from he] at q1
     cases q1
     have c2 : Value.type "enumerate" = Value.type "tuple" := c1
     exact absurd c2 (by decide)
   have hef : e ∉ [it, a] := fun m => by
     rcases List.mem_cons.mp m with z | m
     · exact hei z
     · exact hae (List.mem_singleton.mp m).symm
   have hi : i < its.toArray.size := by
     have := (List.getElem?_eq_some_iff.mp hu).1
     simpa using this
   refine wpAny_pyNext_enum_itemD (draws_tup (A := X.A.in1) (I.ok.hd hc) it a hal its.toArray) he ⟨hit, pt⟩ hi hei hef fun y h' tk hy ho hst hT hsz hk => ?_
   have ey : y = u := by
     have : its.toArray[i]? = some u := by simpa using hu
     rw [this] at hy
     exact (Option.some.inj hy).symm
   subst ey
   have fr : H s.heap.objs.size = none := I.hok.fresh (Nat.le_refl _)
   refine ⟨_, rfl, ?_⟩
   refine wpAny_letOwnedTupleGo_enum (s := { s with heap := h', toks := tk + 1 }) ho fun h2 he2 sb => ?_
   have hlt : e < s.heap.objs.size := Heap.lt_size he
   have hlt2 : it < s.heap.objs.size := Heap.lt_size hoe
   have hT2 : h2.get? s.heap.objs.size = some { cls := .type "tuple", data := .seq #[.int i tk, y] } := (sb.2 _ (Nat.ne_of_gt hlt)).trans hT
   have hk2 : ∀ b o, b ≠ e → b ≠ it → s.heap.get? b = some o → h2.get? b = some o := fun b o z1 z2 q => (sb.2 b z1).trans (hk b o z1 z2 q)
   have it2 : h2.IsTupleIter it a (i + 1) := hst.1.at fun o z => (sb.2 it (Ne.symm hei)).trans z
   refine ⟨.ref s.heap.objs.size, upd H s.heap.objs.size (.tup [.int i, x]), ?_, rfl, ⟨_, x, fr, rfl, rfl, fun ys hy => by rw [I.tuple_inj hy hq]; exact hx⟩, ⟨⟨_, he2⟩, it2⟩, fun b hb => ?_⟩
   · have I1 : Inv X pins σ H { s with heap := h2, toks := tk + 1 } := I.turnedL (fp := [e, it]) (fun b o hb q => hk2 b o (fun z => hb (by simp [z])) (fun z => hb (by simp [z])) q) hf fun b hb => by
       rcases List.mem_cons.mp hb with rfl | hb
       · exact ⟨_, he2⟩
       · have e' := List.mem_singleton.mp hb
         subst e'
         obtain ⟨o, q, _⟩ := it2
         exact ⟨o, q⟩
     have ff := I.fpOk (b := s.heap.objs.size) (Nat.le_refl _) fr
     refine I1.track fr ff.2.2.2.1 ff.2.1 ff.2.2.2.2.1 ff.2.2.2.2.2 ⟨by show 2 ≤ sizeLine; decide, [.int i tk, y], .cons ⟨tk, rfl⟩ (.cons ru .nil), ⟨_, hT2, rfl, _, rfl⟩⟩
   · have hb' : b < s.heap.objs.size := by
       rcases List.mem_cons.mp hb with rfl | hb
       · exact hlt
       · have e' := List.mem_singleton.mp hb
         subst e'
         exact hlt2
     rw [Zc (Nat.ne_of_lt hb')]
     exact (hf b hb).1
 done := by
   intro X hP hw hK hc i pins s σ H E I hf st hg
   subst hP hw hK
   obtain ⟨xs, hq, hx⟩ := hg
   obtain ⟨its, rv, p, hz⟩ := I.tuple hq
   obtain ⟨⟨old, he⟩, hit⟩ := st
   have pt : s.heap.IsTuple a its.toArray := p
   have hl := rv.length
   unfold pyNext
   have hT : s.TypeIs (.ref e) "enumerate" := ⟨_, he, rfl⟩
   refine wpAny_bind (wpAny_attempt (wpAny_callSpecial?_slot (name := Str.ofString "__next__") hT F.slot_enumerate_next (wpAny_call_entry F.slot_enumerate_next hT F.entry_enumerate_next ?_ (F.args_enumerate_next_1 _))))
   show wpAny _ _ (field (.ref e) 2 >>= _) _ _ _
   refine wpAny_bind (wpAny_field he rfl (x := .ref it) rfl ?_)
   refine wpAny_bind (Ur (A := X.A.in1) (I.ok.hd hc) hit pt (by simp; omega) fun h' ex hb hx' => ?_)
   obtain ⟨o, ho, hcl⟩ := hx'
   refine wpAny_bind (wpAny_isInstance (T := "StopIteration") (b := true) ⟨o, ho, hcl⟩ isSubtype_stop ?_)
   refine wpAny_pure ⟨rfl, ?_⟩
   obtain ⟨g0, g1, g2, g3, g4, g5⟩ := hf it (by simp)
   exact I.turned (t' := s.toks) (fun b o hb' q => hb b o hb' q) g0 g1 g3 g4 g5
 self := fun _ _ _ _ _ st h => by
   obtain ⟨⟨old, he⟩, _⟩ := st
   exact wpAny_pyIter_enum he h
section
variable {X : Cx}
def iEnumT (K : W.Frag) (ta : TA) : TI := fun σ H R => ta σ H fun vs H1 => ∃ a, vs = [.ref a] ∧ (∃ xs, SqT K H1 a xs) ∧ R (Ite K a) H1
theorem pi_enumT {a : Expr} {ta : TA} {p pos : Pos} {elts : List Expr} {k : Nat} {tpos : Pos} (hg : Gl X "enumerate") (hm : X.mg "enumerate" = none) (ha : PA X [a] ta) (hs : starEach [a] X.env = [(false, eval a X.env)] := by rfl) : PI X (.Tuple elts k tpos) (.Call (.Name "enumerate" p) [a] [] pos) (iEnumT X.K ta) := by
 intro pins s σ H R I h
 refine Call_ (TD I hg hm boot_enumerate (PyProof.Rows.callWith_type1 (thn (ha pos pins s σ H _ I h) fun us s1 ⟨vs, H1, I1, r1, q1⟩ => ?_) hs rfl))
 obtain ⟨b, e, ⟨xs, hq⟩, q⟩ := q1
 subst e
 obtain ⟨u, rfl, ru⟩ := r1.one
 cases ru
 obtain ⟨its, rv, pt, hz⟩ := I1.tuple hq
 refine call_enumT (show s1.heap.IsTuple b its.toArray from pt) fun h' he hit hsz hk => ?_
 refine wpAny_pyIter_enum (s := { s1 with heap := h' }) he ?_
 refine ⟨s1.heap.objs.size + 1, [s1.heap.objs.size + 1, s1.heap.objs.size], _, _, H1, rfl, I1.kept (t' := s1.toks) hk, turn_enumT b _ _ (Nat.succ_ne_self _), ⟨⟨_, he⟩, hit⟩, fun c hc => ?_, q⟩
 rcases List.mem_cons.mp hc with rfl | hc
 · exact I1.fpOk (Nat.le_succ _) (I1.hok.fresh (Nat.le_succ _))
 · have e' := List.mem_singleton.mp hc
   subst e'
   exact I1.fpOk (Nat.le_refl _) (I1.hok.fresh (Nat.le_refl _))
end
theorem for_enumT {K : PySem.W.Frag} {a : Addr} {xs : List V} {g : TG} {tb : TS} {D : Ends} {σ : St} {H : Hp} (Pv : Nat → St → Hp → Prop) (h0 : Pv 0 σ H) (hl : ∀ i σ H, i ≤ xs.length → Pv i σ H → SqT K H a xs)
   (hs : ∀ i x σ H T, xs[i]? = some x → Pv i σ H → H T = none → g (.ref T) σ (upd H T (.tup [.int i, x])) fun σ2 H2 => tb { D with nx := Pv (i + 1), ct := Pv (i + 1), bk := D.nx } σ2 H2) (hd : ∀ σ H, Pv xs.length σ H → D.nx σ H) :
   ∃ W : Nat → Nat → St → Hp → Prop, (∃ m, W 0 m σ H) ∧ ∀ i m σ H, W i m σ H →
     ((Ite K a).stop i H ∧ D.nx σ H) ∨ ((Ite K a).go i H ∧ ∃ N : St → Hp → Prop, (∀ σ' H', N σ' H' → ∃ m', m' < m ∧ W (i + 1) m' σ' H') ∧ ∀ x H', (Ite K a).yld i H x H' → g x σ H' fun σ2 H2 => tb { D with nx := N, ct := N, bk := D.nx } σ2 H2) := by
 refine ⟨fun i m σ H => m = xs.length - i ∧ i ≤ xs.length ∧ Pv i σ H, ⟨xs.length, by simp, Nat.zero_le _, h0⟩, ?_⟩
 rintro i m σ H ⟨rfl, hi, p⟩
 have q := hl i σ H hi p
 by_cases hlt : i < xs.length
 · refine .inr ⟨⟨xs, xs[i], q, by simp [hlt]⟩, Pv (i + 1), fun σ' H' p' => ⟨xs.length - (i + 1), by omega, rfl, hlt, p'⟩, fun x H' y => ?_⟩
   obtain ⟨T, z, nT, e, e2, y⟩ := y
   subst e e2
   exact hs i z σ _ T (y xs q) p nT
 · have e : i = xs.length := by omega
   subst e
   exact .inl ⟨⟨xs, q, Nat.le_refl _⟩, hd σ H p⟩
section
variable {prog : Program} {w : World} {A : Around} {R : Result → Shared → Prop} {I S : Addr} {fp wr : List Addr} {n : Nat} {P : Nat → Value → Prop} {St : Nat → Heap → Prop} {bt : Nat → Nat → Bool} {Gd : Heap → Prop} {kw : List (Str × Value)}
end
section
variable {prog : Program} {w : World} {A : Around} {E : Value → Shared → Prop} {s : Shared}
end
section
variable {X : Cx}
end
end L2
end
section
namespace L2
open PySem PySem.Spec PyProof.Rows
theorem ZK {K : W.Frag} {C : Addr} {v : Value} {b : Bool} (h : W.mroIn K C v = some b) : (W.clsIn K C).isSome = true := by
 unfold W.mroIn at h
 cases e : W.clsIn K C with
 | none => rw [e] at h; cases h
 | some cd => rfl
theorem Ut {K : W.Frag} {t : Value} : W.kitOne K t t = some true := by
 unfold W.kitOne
 rw [if_pos (by simp)]
theorem Se {K : W.Frag} {t : Value} {C : Addr} {b : Bool} (h1 : W.typeIn K (.ref C) = some (.type "type")) (h2 : (W.clsIn K C).isSome = true) (h : W.subIn K t (.ref C) = some b) (hb : b = true ∨ (t == .ref C) = false := by first | exact .inl rfl | exact .inr rfl) : W.kitOne K t (.ref C) = some b := by
 unfold W.kitOne
 by_cases e : (t == Value.ref C) = true
 · rw [if_pos e]
   rcases hb with hb | hb
   · rw [hb]
   · rw [hb] at e; cases e
 · rw [if_neg e]
   show (if ((W.clsIn K C).isSome && W.typeIn K (.ref C) == some (.type "type")) = true then W.subIn K t (.ref C) else none) = _
   rw [h1, h2]
   exact h
theorem XB {K : W.Frag} {D C : Addr} (h1 : W.typeIn K (.ref C) = some (.type "type")) (h2 : (W.clsIn K C).isSome = true) (h : W.subIn K (.ref D) (.ref C) = some false) (h3 : W.subIn K (.ref D) (.ref D) = some true) : W.kitOne K (.ref D) (.ref C) = some false := by
 refine Se h1 h2 h (.inr ?_)
 have ne : D ≠ C := fun z => by
   subst z
   rw [h] at h3
   cases h3
 exact beq_eq_false_iff_ne.mpr fun z => ne (by injection z)
theorem QD {K : W.Frag} {t : Value} {T : String} {b : Bool} (h1 : W.kitMeta T = true) (h : W.subIn K t (.type T) = some b) (hb : b = true ∨ (t == .type T) = false := by first | exact .inl rfl | exact .inr rfl) : W.kitOne K t (.type T) = some b := by
 unfold W.kitOne
 by_cases e : (t == Value.type T) = true
 · rw [if_pos e]
   rcases hb with hb | hb
   · rw [hb]
   · rw [hb] at e; cases e
 · rw [if_neg e]
   show (if W.kitMeta T = true then W.subIn K t (.type T) else none) = _
   rw [if_pos h1]
   exact h
end L2
end
section
namespace L2
open PySem PySem.Spec PyProof.Rows
def UJ (J : It) (fv : List (Option Nat)) (jx : Nat) (tc : TT) (te : TE) (σ : St) (H1 : Hp) (Q : VK) : Prop :=
 ∃ W : Nat → Nat → List V → Hp → Prop, (∃ m, W 0 m [] H1) ∧ ∀ i m ys H, W i m ys H → ys.length < sizeLine ∧
 ((J.stop i H ∧ ∀ acc, H acc = none → Q (.ref acc) (upd H acc (.lst ys))) ∨ (J.go i H ∧ ∀ v H', J.yld i H v H' → tc ((blk fv σ).set jx (some v)) H' fun b H2 => if b = true then te ((blk fv σ).set jx (some v)) H2 fun y H3 => ∃ m', m' < m ∧ W (i + 1) m' (ys ++ [y]) H3 else ∃ m', m' < m ∧ W (i + 1) m' ys H2))
theorem comp_list {K : W.Frag} {a : Addr} {xs : List V} {fv : List (Option Nat)} {jx : Nat} {te : TE} {σ : St} {H : Hp} {Q : VK} (Pv : Nat → List V → Hp → Prop) (h0 : Pv 0 [] H)
   (hl : ∀ i ys H, i ≤ xs.length → Pv i ys H → SqL K H a xs ∧ ys.length < sizeLine)
   (hs : ∀ i x ys H (Q' : VK), xs[i]? = some x → Pv i ys H → (∀ y H3, Pv (i + 1) (ys ++ [y]) H3 → Q' y H3) → te ((blk fv σ).set jx (some x)) H Q')
   (hd : ∀ ys H, Pv xs.length ys H → ∀ acc, H acc = none → Q (.ref acc) (upd H acc (.lst ys))) : UJ (Itl K a) fv jx (fun _ H Q => Q true H) te σ H Q := by
 refine ⟨fun i m ys H => m = xs.length - i ∧ i ≤ xs.length ∧ Pv i ys H, ⟨xs.length, by simp, Nat.zero_le _, h0⟩, ?_⟩
 rintro i m ys H ⟨rfl, hi, p⟩
 obtain ⟨q, hz⟩ := hl i ys H hi p
 refine ⟨hz, ?_⟩
 by_cases hlt : i < xs.length
 · refine .inr ⟨⟨xs, xs[i], q, by simp [hlt]⟩, fun x H' y => ?_⟩
   obtain ⟨e, y⟩ := y
   subst e
   refine iteT ?_
   exact hs i x ys _ _ (y xs q) p fun y H3 p3 => ⟨xs.length - (i + 1), by omega, rfl, hlt, p3⟩
 · have e : i = xs.length := by omega
   subst e
   exact .inl ⟨⟨xs, q, Nat.le_refl _⟩, hd ys H p⟩
def tCompA (wi : TI) (fv : List (Option Nat)) (jx : Nat) (tc : TT) (te : TE) : TE := fun σ H Q => wi σ H fun J H1 => UJ J fv jx tc te σ H1 Q
section
variable {X : Cx} {scope : Scope} {cl : List (Str × Addr)} {NB : List Str} {fv : List (Option Nat)} {x y : Str} {px py pos spos : Pos} {elt iter : Expr} {ifs : List Expr} {jx iy : Nat} {wi : TI} {tc : TT} {te : TE}
theorem SC (hc : X.calm = true) (O : CompOk X scope cl NB fv) (hi : PI X (.Name x px) iter wi) (hx : scope.names.lookup x = some .local) (hjx : NB[jx]? = some x) (hfx : fv[jx]? = some none) (hC : ∀ s0 H0 ex, PIfs (Vb X NB scope cl s0 H0 ex) ifs tc)
   (hE : ∀ s0 H0 ex, PE (Vb X NB scope cl s0 H0 ex) elt te) (hs : ∀ x, foldedSetIterable iter X.env x = pure x := by intro _; rfl) : PE X (.ListComp elt [⟨.Name x px, iter, ifs, 0⟩] scope pos) (tCompA wi fv jx tc te) :=
 pe_comp hc O hi hx hjx hfx hC hE hs
theorem Uf (hc : X.calm = true) (O : CompOk X scope cl NB fv) (hi : PI X (.Name x px) iter wi) (hx : scope.names.lookup x = some .local) (hjx : NB[jx]? = some x) (hfx : fv[jx]? = some none) (hC : ∀ s0 H0 ex, PIfs (Vb X NB scope cl s0 H0 ex) ifs tc)
   (hE : ∀ s0 H0 ex, PE (Vb X NB scope cl s0 H0 ex) elt te) (hN : X.N.Nodup) (hiy : X.N[iy]? = some y) (hy : Loc X.env.scope y)
   (hsw : swapsWith (.ListComp elt [⟨.Name x px, iter, ifs, 0⟩] scope pos) (some (.Name y py)) spos.line X.env = pure true) (hs : ∀ x, foldedSetIterable iter X.env x = pure x := by intro _; rfl)
   (hf : X.fn y = true ∨ X.env.scope.names.lookup y = some .local := by first | exact .inl rfl | exact .inr rfl | assumption) :
   PS X (.Assign [.Name y py] (.ListComp elt [⟨.Name x px, iter, ifs, 0⟩] scope pos) spos) (tAsg (tCompA wi fv jx tc te) (gName iy)) :=
 ps_setComp hc O hi hx hjx hfx hC hE hN hiy hy hsw hs hf
end
theorem Vt {X : Cx} {x : Str} {i : Int} {t : Tok} {pos : Pos} (hm : X.mg x = some (.int i t)) (hg : Gl X x := by rfl) (hd : (x == ("__debug__" : Str)) = false := by decide) : PE X (.Name x pos) (tC (.int i)) := pe_glob (v := .int i) hg hm ⟨t, rfl⟩ hd
theorem VR {X : Cx} {x : Str} {C : Addr} {pos : Pos} (hm : X.mg x = some (.ref C)) (hg : Gl X x := by rfl) (hd : (x == ("__debug__" : Str)) = false := by decide) : PE X (.Name x pos) (tC (.ref C)) := pe_glob (v := .ref C) hg hm rfl hd
theorem Ql {X : Cx} {x : Str} {T : String} {pos : Pos} (hm : X.mg x = none) (hv : bootBuiltins x = some (.type T)) (hg : Gl X x := by rfl) (hn : x ≠ "__name__" := by decide) (hd : (x == ("__debug__" : Str)) = false := by decide) : PE X (.Name x pos) (tC (.ty T)) := pe_bltn (v := .ty T) hg hm hv rfl hn hd
end L2
end
section
namespace L2
open PySem PySem.Spec PyProof.Rows
structure TSem (X : Cx) (sts : List Stmt) (D : Ends) (σ : St) (H : Hp) : Prop where
 run : ∀ (pins : List (Addr × Obj)) (s : Shared), Inv X pins σ H s → wpAny (model X.prog X.w) X.A (execs sts X.env) (SP X pins D) X.xe s
abbrev tSem (X : Cx) (sts : List Stmt) : TS := TSem X sts
theorem Ya {X : Cx} {sts : List Stmt} : PSs X sts (tSem X sts) := fun pins s σ H D I h => h.run pins s I
theorem Zl {X : Cx} {st : Stmt} {rest : List Stmt} {t : TS} {D : Ends} {σ : St} {H : Hp} (h1 : PS X st t) (h : t { D with nx := tSem X rest D } σ H) : TSem X (st :: rest) D σ H := ⟨fun pins s I => Zh h1 Ya pins s σ H D I h⟩
theorem Yh {X : Cx} {st : Stmt} {t : TS} {D : Ends} {σ : St} {H : Hp} (h1 : PS X st t) (h : t D σ H) : TSem X [st] D σ H := ⟨fun pins s I => Zg h1 pins s σ H D I h⟩
def litV : Expr → Option V
 | .Constant (.int i) _ _ => some (.int i)
 | .Constant (.str x) _ _ => some (.str x)
 | .Constant .none _ _ => some .non
 | .Constant (.bool b) _ _ => some (.bl b)
 | .UnaryOp .USub (.Constant (.int i) _ _) _ => some (.int (-i))
 | _ => none
def litVs : List Expr → Option (List V)
 | [] => some []
 | e :: es => (litV e).bind fun v => (litVs es).map fun vs => v :: vs
theorem lit_ok {X : Cx} {e : Expr} {v : V} (h : litV e = some v) : PE X e (tC v) ∧ ∀ es, starEach (e :: es) X.env = (false, eval e X.env) :: starEach es X.env := by
 unfold litV at h
 split at h
 · cases h; exact ⟨Zf, fun _ => rfl⟩
 · cases h; exact ⟨Zk, fun _ => rfl⟩
 · cases h; exact ⟨ZO, fun _ => rfl⟩
 · cases h; exact ⟨UL, fun _ => rfl⟩
 · cases h
   exact ⟨fun pins s σ H Q I q => pe_un un_neg Zf pins s σ H Q I ⟨_, rfl, q⟩, fun _ => rfl⟩
 · cases h
theorem pa_lits {X : Cx} : ∀ {es : List Expr} {vs : List V}, litVs es = some vs → PA X es (fun _ H Q => Q vs H)
 | [], vs, h => by
   cases h
   exact Ze
 | e :: es, vs, h => by
   unfold litVs at h
   cases h1 : litV e with
   | none => rw [h1] at h; cases h
   | some v =>
     rw [h1] at h
     cases h2 : litVs es with
     | none => rw [h2] at h; cases h
     | some ws =>
       rw [h2] at h
       cases h
       obtain ⟨a, b⟩ := lit_ok (X := X) h1
       exact Za a (pa_lits h2) (b es)
theorem Qk {X : Cx} {L : Expr} {es : List Expr} {vs : List V} {pos : Pos} (hL : Expr.List es pos = L) (h : litVs es = some vs) : PE X L (fun _ H Q => vs.length ≤ sizeLine ∧ ∀ p, H p = none → Q (.ref p) (upd H p (.lst vs))) := by
 subst hL
 exact Yr (pa_lits h)
end L2
end
section
namespace L2
open PySem PySem.Spec PyProof.Rows
abbrev KO := Option (Int × Int)
def kl (p : Int × Int) : List Key := [Sum.inl p.1, Sum.inl p.2]
def hKO (P : Program) (w : World) : KO → Int
 | none => 4238894112
 | some p => (tupleKind (ZH P w)).hash (kl p)
theorem apart {P : Program} {w : World} {i j : Nat} (hi : i < 6) (hj : j < 64) : hKO P w (some ((i : Int), (j : Int))) ≠ hKO P w none := by
 have h : ∀ (i : Fin 6) (j : Fin 64), reduceHash (Builtin.Tuple.tupleHashOf [hashInt (i.1 : Int), hashInt (j.1 : Int)]) ≠ 4238894112 := by decide +kernel
 exact h ⟨i, hi⟩ ⟨j, hj⟩
abbrev MRow := KO × Addr × Addr
def keyU (y : MRow) : Value := match y.1 with
 | none => .none
 | some _ => .ref y.2.1
def entO (P : Program) (w : World) (y : MRow) : DictEntry := ⟨hKO P w y.1, keyU y, .ref y.2.2⟩
def MixAt (P : Program) (w : World) (h : Heap) (d : Addr) (ys : List MRow) : Prop :=
 (d == sysModules) = false ∧ ∃ o es ep, h.get? d = some o ∧ o.ExactDict ∧ o.data = .dict es ep ∧ es.toList = ys.map (entO P w)
def mixO (P : Program) (w : World) (d : Addr) (ys : List MRow) : HO := .ext fun h => MixAt P w h d ys
theorem mixO_ok {P : Program} {w : World} {H : Hp} {h : Heap} {d : Addr} {ys : List MRow} (x : MixAt P w h d ys) : ObjOk P w H h d (mixO P w d ys) := by
 refine ⟨x, let ⟨_, o, _, _, ho, _⟩ := x; ⟨o, ho⟩, fun h1 h2 ⟨m, o, es, ep, ho, r⟩ k => ⟨m, o, es, ep, k o ho, r⟩⟩
theorem MixAt.typeIs {P : Program} {w : World} {s : Shared} {d : Addr} {ys : List MRow} (x : MixAt P w s.heap d ys) : s.TypeIs (.ref d) "dict" :=
 let ⟨_, o, _, _, ho, hc, _⟩ := x; ⟨o, ho, hc.1⟩
structure RowsOk (P : Program) (w : World) (h : Heap) (ys : List MRow) : Prop where
 tup : ∀ y ∈ ys, ∀ p, y.1 = some p → (tupleKind (ZH P w)).is h (kl p) y.2.1 ∧ hKO P w (some p) ≠ hKO P w none
 nd : (ys.map (·.1)).Nodup
theorem kl_inj {p q : Int × Int} (h : kl p = kl q) : p = q := by
 unfold kl at h
 simp at h
 exact Prod.ext h.1 h.2
section
variable {P : Program} {w : World} {A : Around} {E : Value → Shared → Prop} {s : Shared} {d : Addr} {o : Obj} {es : Array DictEntry} {ep : Nat} {ys : List MRow}
theorem UX (he : es.toList = ys.map (entO P w)) (j : Nat) : es[j]? = (ys[j]?).map (entO P w) := by
 rw [← Array.getElem?_toList, he, List.getElem?_map]
theorem VS (he : es.toList = ys.map (entO P w)) {k : Int} {i : Nat} : i ∈ placesWithHash es.size (fun i => es[i]?.map (·.hash)) k ↔ ∃ y, ys[i]? = some y ∧ hKO P w y.1 = k := by
 unfold placesWithHash
 rw [List.mem_filter, List.mem_range]
 show (i < es.size ∧ ((es[i]?.map (·.hash)) == some k) = true) ↔ _
 rw [UX he]
 have hz : es.size = ys.length := by rw [← Array.length_toList, he, List.length_map]
 constructor
 · rintro ⟨h1, h2⟩
   rw [hz] at h1
   refine ⟨ys[i], by simp [h1], ?_⟩
   simpa [List.getElem?_eq_getElem h1, entO] using h2
 · rintro ⟨y, h1, h2⟩
   refine ⟨by rw [hz]; exact (List.getElem?_eq_some_iff.mp h1).1, ?_⟩
   rw [h1]
   simp [entO, h2]
theorem one_row (hn : (ys.map (·.1)).Nodup) {i j : Nat} {y z : MRow} (h1 : ys[i]? = some y) (h2 : ys[j]? = some z) (e : y.1 = z.1) : i = j := by
 have a1 : (ys.map (·.1))[i]? = some y.1 := by rw [List.getElem?_map, h1]; rfl
 have a2 : (ys.map (·.1))[j]? = some y.1 := by rw [List.getElem?_map, h2, e]; rfl
 exact (List.getElem?_inj (List.getElem?_eq_some_iff.mp a1).1 hn).mp (a1.trans a2.symm)
theorem eq_nn {M : Model} {Q : Bool → Shared → Prop} (h : Q true s) : wpAny M A (eqBool .none .none) Q E s := by
 unfold eqBool
 rw [if_pos (show (Value.none == Value.none) = true from rfl)]
 exact wpAny_bind (wpAny_rule (wpAny_pure h))
theorem find_none {Q : Option Nat → Shared → Prop} (ho : s.heap.get? d = some o) (hd : o.data = .dict es ep) (he : es.toList = ys.map (entO P w)) (R : RowsOk P w s.heap ys)
   (h0 : (∀ (j : Nat) (y : MRow), ys[j]? = some y → y.1 ≠ none) → Q none s) (h1 : ∀ (j : Nat) (y : MRow), ys[j]? = some y → y.1 = none → Q (some j) s) : wpAny (model P w) A (dictFind d .none (hKO P w none)) Q E s := by
 have key : ∀ i ∈ placesWithHash es.size (fun i => es[i]?.map (·.hash)) (hKO P w none), ∃ y, ys[i]? = some y ∧ y.1 = none := fun i hi => by
   obtain ⟨y, hy, hh⟩ := (VS he).mp hi
   refine ⟨y, hy, ?_⟩
   cases e : y.1 with
   | none => rfl
   | some p =>
     rw [e] at hh
     exact absurd hh (R.tup y (List.mem_of_getElem? hy) p e).2
 have al : ∀ j y, ys[j]? = some y → y.1 = none → j ∈ placesWithHash es.size (fun i => es[i]?.map (·.hash)) (hKO P w none) := fun j y hy e => (VS he).mpr ⟨y, hy, by rw [e]⟩
 unfold dictFind; try with_reducible refine wpAny_holding ?_
 refine wpAny_bind (wpAny_dictEntries ho hd ?_)
 dsimp only
 generalize hpl : placesWithHash es.size (fun i => es[i]?.map (·.hash)) (hKO P w none) = pl at key al
 rw [if_pos (show ((Value.none :: pl.filterMap fun i => es[i]?.map (·.key)).all carriedByValue) = true by
   rw [List.all_cons]
   simp only [carriedByValue, Bool.true_and]
   rw [List.all_eq_true]
   intro v hv
   obtain ⟨i, hi, e⟩ := List.mem_filterMap.mp hv
   obtain ⟨y, hy, hk⟩ := key i hi
   rw [UX he, hy] at e
   simp [entO, keyU, hk] at e
   rw [← e]
   rfl)]
 unfold dictWalkPlain
 refine wpAny_bind (wpAny_forIn_list _ (fun rest b s' => s' = s ∧ b = (none, ()) ∧ rest = pl) _ ?_ ?_ _ _ ⟨rfl, rfl, rfl⟩)
 · rintro x rest b s' ⟨rfl, rfl, hr⟩
   obtain ⟨y, hy, hk⟩ := key x (hr ▸ List.mem_cons_self)
   rw [UX he, hy]
   dsimp only [Option.map_some]
   rw [if_pos (show ((entO P w y).hash == hKO P w none) = true by simp [entO, hk]), show (entO P w y).key = .none by simp [entO, keyU, hk]]
   refine wpAny_bind (wpAny_dictEpoch ho hd (wpAny_bind (eq_nn (wpAny_bind (wpAny_dictEpoch ho hd ?_)))))
   rw [if_neg (by simp), if_pos rfl]
   exact wpAny_bind (wpAny_rule (wpAny_pure (wpAny_pure (h1 x y hy hk))))
 · rintro b s' ⟨rfl, rfl, hr⟩
   refine wpAny_pure (h0 fun j y hy e => ?_)
   have := al j y hy e
   rw [← hr] at this
   cases this
theorem find_some {p : Int × Int} {b : Addr} {Q : Option Nat → Shared → Prop} (hu : A.units < cLine) (ho : s.heap.get? d = some o) (hd : o.data = .dict es ep) (he : es.toList = ys.map (entO P w)) (R : RowsOk P w s.heap ys)
   (hb : (tupleKind (ZH P w)).is s.heap (kl p) b) (hap : hKO P w (some p) ≠ hKO P w none)
   (h0 : (∀ (j : Nat) (y : MRow), ys[j]? = some y → y.1 ≠ some p) → Q none s) (h1 : ∀ (j : Nat) (y : MRow), ys[j]? = some y → y.1 = some p → Q (some j) s) : wpAny (model P w) A (dictFind d (.ref b) (hKO P w (some p))) Q E s := by
 have key : ∀ i ∈ placesWithHash es.size (fun i => es[i]?.map (·.hash)) (hKO P w (some p)), ∃ y q, ys[i]? = some y ∧ hKO P w y.1 = hKO P w (some p) ∧ y.1 = some q ∧ (tupleKind (ZH P w)).is s.heap (kl q) y.2.1 := fun i hi => by
   obtain ⟨y, hy, hh⟩ := (VS he).mp hi
   cases e : y.1 with
   | none => rw [e] at hh; exact absurd hh.symm hap
   | some q => exact ⟨y, q, hy, hh, e, (R.tup y (List.mem_of_getElem? hy) q e).1⟩
 have al : ∀ j y, ys[j]? = some y → y.1 = some p → j ∈ placesWithHash es.size (fun i => es[i]?.map (·.hash)) (hKO P w (some p)) := fun j y hy e => (VS he).mpr ⟨y, hy, by rw [e]⟩
 have ndp : (placesWithHash es.size (fun i => es[i]?.map (·.hash)) (hKO P w (some p))).Nodup := List.nodup_range.sublist List.filter_sublist
 have hany : ¬ (es.any fun e => e.key == Value.ref b && e.hash != hKO P w (some p)) = true := by
   rw [← Array.any_toList, he, List.any_map, List.any_eq_true]
   rintro ⟨y, hy, hc⟩
   simp only [Function.comp, entO, Bool.and_eq_true, beq_iff_eq, bne_iff_ne, ne_eq] at hc
   obtain ⟨hk, hne⟩ := hc
   cases e : y.1 with
   | none => simp [keyU, e] at hk
   | some q =>
     have hq := (R.tup y hy q e).1
     have : y.2.1 = b := by simpa [keyU, e] using hk
     rw [this] at hq
     rw [e, kl_inj ((tupleKind (ZH P w)).inj hq hb)] at hne
     exact hne rfl
 unfold dictFind; try with_reducible refine wpAny_holding ?_
 refine wpAny_bind (wpAny_dictEntries ho hd ?_)
 dsimp only
 generalize hpl : placesWithHash es.size (fun i => es[i]?.map (·.hash)) (hKO P w (some p)) = pl at key al ndp
 rw [if_neg (show ¬ ((Value.ref b :: pl.filterMap fun i => es[i]?.map (·.key)).all carriedByValue) = true by simp [carriedByValue]), if_neg hany]
 have quiet : ∀ v ∈ pl.filterMap fun i => es[i]?.map (·.key), ∃ k' c, v = .ref c ∧ (tupleKind (ZH P w)).is s.heap k' c := fun v hv => by
   obtain ⟨i, hi, e⟩ := List.mem_filterMap.mp hv
   obtain ⟨y, q, hy, _, eq, hq⟩ := key i hi
   rw [UX he, hy] at e
   simp [entO, keyU, eq] at e
   exact ⟨kl q, y.2.1, e.symm, hq⟩
 split <;> (first | refine wpAny_bind (wpAny_pure ?_) | refine wpAny_bind (wpAny_tableMayTell_quiet hb quiet ?_)) <;> (
   rw [if_neg (by simp)]
   refine wpAny_bind (wpAny_forIn_list _ (fun rest b s' => s' = s ∧ ∃ hit, b = (none, hit) ∧ ∃ done, pl = done ++ rest ∧ ((hit = none ∧ ∀ j ∈ done, ∀ y : MRow, ys[j]? = some y → y.1 ≠ some p) ∨ ∃ j ∈ done, ∃ y : MRow, hit = some j ∧ ys[j]? = some y ∧ y.1 = some p)) _ ?_ ?_ _ _ ⟨rfl, none, rfl, [], rfl, .inl ⟨rfl, fun j hj => by cases hj⟩⟩)
   · rintro x rest b' s' ⟨rfl, hit, rfl, done, hdn, hH⟩
     obtain ⟨y, q, hy, hh, eq, hq⟩ := key x (by rw [hdn]; simp)
     have hxd : x ∉ done := fun hx => by
       rw [hdn, List.nodup_append] at ndp
       exact ndp.2.2 x hx x (by simp) rfl
     rw [UX he, hy]
     dsimp only [Option.map_some]
     rw [if_pos (show ((entO P w y).hash == hKO P w (some p)) = true by simp [entO, hh]), show (entO P w y).key = .ref y.2.1 by simp [entO, keyU, eq]]
     refine wpAny_bind (wpAny_dictEpoch ho hd (wpAny_bind ((tupleKind (ZH P w)).eqBool (x := kl q) (y := kl p) hu hq hb (wpAny_bind (wpAny_dictEpoch ho hd ?_)))))
     rw [if_neg (by simp)]
     by_cases hqp : q = p
     · subst hqp
       rw [decide_eq_true rfl, if_pos rfl]
       rcases hH with ⟨rfl, hno⟩ | ⟨j, hj, z, rfl, hz, ez⟩
       · rw [if_neg (by simp)]
         refine wpAny_bind (wpAny_rule ?_)
         split
         · exact wpAny_pure (wpAny_pure (h1 x y hy eq))
         · exact wpAny_pure ⟨rfl, some x, rfl, done ++ [x], by simp [hdn], .inr ⟨x, by simp, y, rfl, hy, eq⟩⟩
       · have ex := one_row R.nd hz hy (ez.trans eq.symm)
         rw [ex] at hj
         exact absurd hj hxd
     · rw [decide_eq_false (fun e => hqp (kl_inj e)), if_neg (by simp)]
       refine wpAny_bind (wpAny_rule ?_)
       rw [if_neg (by simp)]
       refine wpAny_pure ⟨rfl, hit, rfl, done ++ [x], by simp [hdn], ?_⟩
       rcases hH with ⟨e, hno⟩ | ⟨j, hj, r⟩
       · refine .inl ⟨e, fun j hj z hz => ?_⟩
         rcases List.mem_append.mp hj with hj | hj
         · exact hno j hj z hz
         · have ej : j = x := by simpa using hj
           rw [ej, hy] at hz
           cases hz
           rw [eq]
           exact fun e => hqp (by simpa using e)
       · exact .inr ⟨j, List.mem_append_left _ hj, r⟩
   · rintro b' s' ⟨rfl, hit, rfl, done, hdn, hH⟩
     rw [List.append_nil] at hdn
     subst hdn
     rcases hH with ⟨rfl, hno⟩ | ⟨j, hj, z, rfl, hz, ez⟩
     · exact wpAny_pure (h0 fun j y hy e => hno j (al j y hy e) y hy e)
     · exact wpAny_pure (h1 j z hz ez))
theorem hash_none {Q : Int → Shared → Prop} (h : ∀ t, Q 4238894112 { s with toks := t }) : wpAny (model P w) A (pyHash .none) Q E s := by
 have ty : s.TypeIs .none "NoneType" := rfl
 unfold pyHash; first | unfold pyHashByItsType | skip
 refine wpAny_bind ?_
 rw [cRoomFor, if_neg (by decide)]; refine wpAny_pure (wpAny_bind (wpAny_specialOf ty F.slot_NoneType_hash.lookup ?_))
 rw [if_neg (by decide)]
 refine wpAny_bind (wpAny_specialOf ty F.slot_NoneType_hash.lookup (wpAny_bind (wpAny_callSpecialIfBoundUnlessNone?_slot ty F.slot_NoneType_hash (wpAny_call_entry F.slot_NoneType_hash ty F.entry_NoneType_hash ?_ (F.args_NoneType_hash_1 _)))))
 refine (show wpAny _ _ (do ret (← mkInt 4238894112)) _ _ s from wpAny_ret_mkInt ?_)
 show wpAny _ _ (pyHashByItsType.reduced 4238894112) Q E _
 unfold pyHashByItsType.reduced
 rw [if_pos (by decide)]
 exact wpAny_pure (h _)
def KeyU (P : Program) (w : World) (h : Heap) : KO → Addr → Value → Prop
 | none, _, u => u = .none
 | some p, b, u => u = .ref b ∧ (tupleKind (ZH P w)).is h (kl p) b ∧ hKO P w (some p) ≠ hKO P w none
theorem KeyU.hash {k : KO} {b : Addr} {u : Value} {Q : Int → Shared → Prop} (hu : A.units < cLine) (x : KeyU P w s.heap k b u) (h : ∀ t, Q (hKO P w k) { s with toks := t }) : wpAny (model P w) A (pyHash u) Q E s := by
 cases k with
 | none =>
   obtain rfl : u = .none := x
   exact hash_none h
 | some p =>
   obtain ⟨rfl, hb, _⟩ := x
   exact (tupleKind (ZH P w)).pyHash hu hb (h _)
theorem find_mix {k : KO} {b : Addr} {u : Value} {Q : Option Nat → Shared → Prop} (hu : A.units < cLine) (ho : s.heap.get? d = some o) (hd : o.data = .dict es ep) (he : es.toList = ys.map (entO P w)) (R : RowsOk P w s.heap ys) (x : KeyU P w s.heap k b u)
   (h0 : (∀ (j : Nat) (y : MRow), ys[j]? = some y → y.1 ≠ k) → Q none s) (h1 : ∀ (j : Nat) (y : MRow), ys[j]? = some y → y.1 = k → Q (some j) s) : wpAny (model P w) A (dictFind d u (hKO P w k)) Q E s := by
 cases k with
 | none =>
   obtain rfl : u = .none := x
   exact find_none ho hd he R h0 h1
 | some p =>
   obtain ⟨rfl, hb, hap⟩ := x
   exact find_some hu ho hd he R hb hap h0 h1
theorem get_mix {k : KO} {b : Addr} {u : Value} {Q : Option Value → Shared → Prop} (hu : A.units < cLine) (m : MixAt P w s.heap d ys) (R : RowsOk P w s.heap ys) (x : KeyU P w s.heap k b u)
   (h0 : (∀ y ∈ ys, y.1 ≠ k) → ∀ t, Q none { s with toks := t }) (h1 : ∀ y ∈ ys, y.1 = k → ∀ t, Q (some (.ref y.2.2)) { s with toks := t }) : wpAny (model P w) A (dictGet d u) Q E s := by
 obtain ⟨_, o, es, ep, ho, _, hd, he⟩ := m
 unfold dictGet; try with_reducible refine wpAny_holding ?_
 refine wpAny_bind (x.hash hu fun t => wpAny_bind (find_mix (s := { s with toks := t }) hu ho hd he R x (fun hn => ?_) fun j y hy e => ?_))
 · refine wpAny_pure (h0 (fun y hy => ?_) t)
   obtain ⟨j, hj⟩ := List.mem_iff_getElem?.mp hy
   exact hn j y hj
 · refine wpAny_bind (wpAny_dictEntries (s := { s with toks := t }) ho hd ?_)
   rw [UX he, hy]
   exact wpAny_pure (h1 y (List.mem_of_getElem? hy) e t)
theorem setd_mix {k : KO} {b l : Addr} {u : Value} {Q : Value → Shared → Prop} (hu : A.units < cLine) (m : MixAt P w s.heap d ys) (R : RowsOk P w s.heap ys) (x : KeyU P w s.heap k b u) (hz : ys.length ≤ sizeLine)
   (h0 : (∀ y ∈ ys, y.1 ≠ k) → ∀ h' t, MixAt P w h' d (ys ++ [(k, b, l)]) → Heap.SameBut d s.heap h' → Q (.ref l) { s with heap := h', toks := t }) (h1 : ∀ y ∈ ys, y.1 = k → ∀ t, Q (.ref y.2.2) { s with toks := t }) :
   wpAny (model P w) A (dictSetDefault d u (.ref l)) Q E s := by
 obtain ⟨hm, o, es, ep, ho, hc, hd, he⟩ := m
 unfold dictSetDefault; try with_reducible refine wpAny_holding ?_
 refine wpAny_bind (x.hash hu fun t => wpAny_bind (find_mix (s := { s with toks := t }) hu ho hd he R x (fun hn => ?_) fun j y hy e => ?_))
 · have ez : es.size = ys.length := by rw [← Array.length_toList, he, List.length_map]
   have ku : keyU (k, b, l) = u := by
     cases k with
     | none => exact (show u = .none from x).symm
     | some p => exact x.1.symm
   refine wpAny_bind (wpAny_rule (wpAny_bind (wpAny_updateDictKeys (hz := by omega) (s := { s with toks := t }) ho hd (wpAny_pure (h0 (fun y hy => ?_) _ t ⟨hm, _, _, ep + 1, Heap.get?_update_self _ ho (Obj.isFreed_of_dict (Obj.data_mapDictKeys hd _)), hc.mapDictKeys _, Obj.data_mapDictKeys hd _, ?_⟩ (Heap.SameBut.update ..))))))
   · obtain ⟨j, hj⟩ := List.mem_iff_getElem?.mp hy
     exact hn j y hj
   · simp [he, entO, ku]
 · refine wpAny_bind (wpAny_dictEntries (s := { s with toks := t }) ho hd ?_)
   rw [UX he, hy]
   exact wpAny_bind (wpAny_rule (wpAny_pure (h1 y (List.mem_of_getElem? hy) e t)))
theorem meets_setd (u : Value) (l : Addr) : MeetsIn P w (Builtin.«dict.setdefault» ⟨[.ref d, u, .ref l], []⟩) (fun A R s => A.in1.units < cLine ∧ ∃ ys k b, MixAt P w s.heap d ys ∧ RowsOk P w s.heap ys ∧ KeyU P w s.heap k b u ∧ ys.length ≤ sizeLine ∧
   ((∀ y ∈ ys, y.1 ≠ k) → ∀ h' t, MixAt P w h' d (ys ++ [(k, b, l)]) → Heap.SameBut d s.heap h' → R (.ok (.ret (.ref l))) { s with heap := h', toks := t }) ∧ ∀ y ∈ ys, y.1 = k → ∀ t, R (.ok (.ret (.ref y.2.2))) { s with toks := t }) :=
 .of_wp fun A R s ⟨hu, ys, k, b, m, rows, x, hz, h0, h1⟩ => by
   unfold Builtin.«dict.setdefault»; refine wpAny_bind ?_
   unfold Builtin.Dict.keyAndDefault; refine wpAny_bind (wpAny_notOrdered_dict m.typeIs ?_)
   show wpAny _ _ (pure (d, u, some (Value.ref l))) _ _ s
   refine wpAny_pure ?_
   dsimp only
   rw [if_neg (by rw [m.1]; exact Bool.false_ne_true)]
   exact wpAny_bind (setd_mix hu m rows x hz (fun hn h' t m' hs => wpAny_pure ⟨_, rfl, h0 hn h' t m' hs⟩) fun y hy e t => wpAny_pure ⟨_, rfl, h1 y hy e t⟩)
theorem meets_getm (u dflt : Value) : MeetsIn P w (Builtin.«dict.get» ⟨[.ref d, u, dflt], []⟩) (fun A R s => A.in1.units < cLine ∧ ∃ ys k b, MixAt P w s.heap d ys ∧ RowsOk P w s.heap ys ∧ KeyU P w s.heap k b u ∧
   ((∀ y ∈ ys, y.1 ≠ k) → ∀ t, R (.ok (.ret dflt)) { s with toks := t }) ∧ ∀ y ∈ ys, y.1 = k → ∀ t, R (.ok (.ret (.ref y.2.2))) { s with toks := t }) :=
 .of_wp fun A R s ⟨hu, ys, k, b, m, rows, x, h0, h1⟩ => by
   show wpAny _ _ (dictGet d u >>= _) _ _ s
   refine wpAny_bind (get_mix hu m rows x (fun hn t => ?_) fun y hy e t => ?_)
   · show wpAny _ _ (Builtin.Dict.missed d u >>= _) _ _ _
     exact wpAny_bind (wpAny_missed_other m.1 (wpAny_pure ⟨dflt, rfl, h0 hn t⟩))
   · exact wpAny_pure ⟨_, rfl, h1 y hy e t⟩
end
def KeyV (P : Program) (w : World) (H : Hp) : KO → Addr → V → Prop
 | none, _, y => y = .non
 | some p, b, y => y = .ref b ∧ H b = some (.tup [.int p.1, .int p.2]) ∧ hKO P w (some p) ≠ hKO P w none
structure RowsV (P : Program) (w : World) (H : Hp) (ys : List MRow) : Prop where
 tup : ∀ y ∈ ys, ∀ p, y.1 = some p → H y.2.1 = some (.tup [.int p.1, .int p.2]) ∧ hKO P w (some p) ≠ hKO P w none
 nd : (ys.map (·.1)).Nodup
 len : ys.length ≤ 1000
section
variable {X : Cx} {pins : List (Addr × Obj)} {σ : St} {H : Hp} {s : Shared} {d : Addr} {ys : List MRow} {k : KO} {b : Addr} {y : V} {u : Value}
theorem RowsV.ok (I : Inv X pins σ H s) (R : RowsV X.prog X.w H ys) : RowsOk X.prog X.w s.heap ys := ⟨fun z hz p e => ⟨Uu (ks := kl p) I.hok (R.tup z hz p e).1, (R.tup z hz p e).2⟩, R.nd⟩
theorem KeyV.ok (I : Inv X pins σ H s) (x : KeyV X.prog X.w H k b y) (r : RelV y u) : KeyU X.prog X.w s.heap k b u := by
 cases k with
 | none =>
   obtain rfl : y = .non := x
   exact r
 | some p =>
   obtain ⟨rfl, h1, h2⟩ := x
   exact ⟨r, Uu (ks := kl p) I.hok h1, h2⟩
theorem mix_at (I : Inv X pins σ H s) (e : H d = some (mixO X.prog X.w d ys)) : MixAt X.prog X.w s.heap d ys := (I.hok d _ e).1
def tDNewM (P : Program) (w : World) : TE := fun _ H Q => ∀ p, H p = none → Q (.ref p) (upd H p (mixO P w p []))
theorem pe_dnewM {pos : Pos} : PE X (.Dict [] [] pos) (tDNewM X.prog X.w) := fun pins s σ H Q I h =>
 wpAny_Dict_empty ⟨.ref s.heap.objs.size, _, I.laid (a := s.heap.objs.size) (o := mixO X.prog X.w s.heap.objs.size []) (t' := s.toks) (fun _ _ q => Heap.get?_push_of_some _ q) (Nat.le_refl _)
   (mixO_ok ⟨beq_eq_false_iff_ne.mpr (Ne.symm (Nat.ne_of_lt I.big)), _, #[], 0, Heap.get?_push_size _ rfl, ⟨rfl, rfl, rfl⟩, rfl, rfl⟩), rfl, h _ (I.hok.fresh (Nat.le_refl _))⟩
def tSetD (P : Program) (w : World) (td ty tx : TE) : TE := fun σ H Q => td σ H fun x H1 => ∃ d ys, x = .ref d ∧ H1 d = some (mixO P w d ys) ∧ ty σ H1 fun y H2 => tx σ H2 fun z H3 => ∃ l k b ys, z = .ref l ∧ H3 d = some (mixO P w d ys) ∧ RowsV P w H3 ys ∧ KeyV P w H3 k b y ∧
 ((∀ y ∈ ys, y.1 ≠ k) → Q (.ref l) (upd H3 d (mixO P w d (ys ++ [(k, b, l)])))) ∧ ∀ y ∈ ys, y.1 = k → Q (.ref y.2.2) H3
def tGetM (P : Program) (w : World) (td ty tx : TE) : TE := fun σ H Q => td σ H fun x H1 => ∃ d ys, x = .ref d ∧ H1 d = some (mixO P w d ys) ∧ ty σ H1 fun y H2 => tx σ H2 fun z H3 => ∃ k b ys, H3 d = some (mixO P w d ys) ∧ RowsV P w H3 ys ∧ KeyV P w H3 k b y ∧
 ((∀ y ∈ ys, y.1 ≠ k) → Q z H3) ∧ ∀ y ∈ ys, y.1 = k → Q (.ref y.2.2) H3
theorem mix_ty (I : Inv X pins σ H s) (e : H d = some (mixO X.prog X.w d ys)) : s.TypeIs (.ref d) "dict" ∧ ∀ c, Value.ref d = .ref c → ∃ ob, s.heap.get? c = some ob ∧ ob.dict = none := by
 have m := mix_at I e
 refine ⟨m.typeIs, fun c q => ?_⟩
 cases q
 obtain ⟨_, ob, _, _, h1, h2, _⟩ := m
 exact ⟨ob, h1, h2.2.1⟩
variable {o e f : Expr} {apos cpos : Pos} {td ty tx : TE}
theorem pe_setd (hu : X.A.units + 1 < cLine) (ho : PE X o td) (he : PE X e ty) (hf : PE X f tx) (m : M2 X o "setdefault" apos e f cpos) : PE X (.Call (.Attribute o "setdefault" apos) [e, f] [] cpos) (tSetD X.prog X.w td ty tx) := by
 intro pins s σ H Q I h
 refine wpAny_Call_method m.base m.few m.line F.plainAttrs_dict F.slot_dict_setdefault F.type_dict_setdefault (thn (ho pins s σ H _ I h) fun u s1 ⟨x, H1, I1, rx, d, ys, ex, e1, q1⟩ => ?_)
 subst ex
 obtain rfl : u = Value.ref d := rx
 obtain ⟨t1, t2⟩ := mix_ty I1 e1
 refine ⟨t1, t2, ?_⟩
 rw [m.trees]
 refine Calls.callWith_builtin rfl (Calls.evalArgs_plain (Calls.spliced_cons (thn (he pins s1 σ H1 _ I1 q1) fun iv s2 ⟨y, H2, I2, ry, q2⟩ =>
   Calls.spliced_cons (thn (hf pins s2 σ H2 _ I2 q2) fun fv s3 ⟨z, H3, I3, rz, l, k, b, ys3, ez, e3, R, ky, h0, h1⟩ => Calls.spliced_nil ?_))))
 subst ez
 obtain rfl : fv = Value.ref l := rz
 have mm := mix_at I3 e3
 refine call_meetsIn F.slot_dict_setdefault mm.typeIs F.entry_dict_setdefault (F.args_dict_setdefault_3 _ _ _) (meets_setd iv l) ⟨Nat.lt_of_le_of_lt (by simp [Around.in1]) hu, ys3, k, b, mm, R.ok I3, ky.ok I3 ry, Nat.le_trans R.len (by decide), fun hn h' t m' hs => ?_, fun z hz ek t => ?_⟩
 · exact ⟨.ref l, _, Ti I3 (by rw [e3]; exact True.intro) hs (let ⟨_, q, _, _, hq, _⟩ := m'; ⟨q, hq⟩) (mixO_ok m'), rfl, h0 hn⟩
 · exact ⟨.ref z.2.2, H3, I3.tok _, rfl, h1 z hz ek⟩
theorem pe_getm (hu : X.A.units + 1 < cLine) (ho : PE X o td) (he : PE X e ty) (hf : PE X f tx) (m : M2 X o "get" apos e f cpos) : PE X (.Call (.Attribute o "get" apos) [e, f] [] cpos) (tGetM X.prog X.w td ty tx) := by
 intro pins s σ H Q I h
 refine wpAny_Call_method m.base m.few m.line F.plainAttrs_dict F.slot_dict_get F.type_dict_get (thn (ho pins s σ H _ I h) fun u s1 ⟨x, H1, I1, rx, d, ys, ex, e1, q1⟩ => ?_)
 subst ex
 obtain rfl : u = Value.ref d := rx
 obtain ⟨t1, t2⟩ := mix_ty I1 e1
 refine ⟨t1, t2, ?_⟩
 rw [m.trees]
 refine Calls.callWith_builtin rfl (Calls.evalArgs_plain (Calls.spliced_cons (thn (he pins s1 σ H1 _ I1 q1) fun iv s2 ⟨y, H2, I2, ry, q2⟩ =>
   Calls.spliced_cons (thn (hf pins s2 σ H2 _ I2 q2) fun fv s3 ⟨z, H3, I3, rz, k, b, ys3, e3, R, ky, h0, h1⟩ => Calls.spliced_nil ?_))))
 have mm := mix_at I3 e3
 refine call_meetsIn F.slot_dict_get mm.typeIs F.entry_dict_get (F.args_dict_get_3 _ _ _) (meets_getm iv fv) ⟨Nat.lt_of_le_of_lt (by simp [Around.in1]) hu, ys3, k, b, mm, R.ok I3, ky.ok I3 ry, fun hn t => ?_, fun v hv ek t => ?_⟩
 · exact ⟨z, H3, I3.tok _, rz, h0 hn⟩
 · exact ⟨.ref v.2.2, H3, I3.tok _, rfl, h1 v hv ek⟩
end
end L2
end
section
namespace Mir
section
variable {ν : Type}
inductive Steps (goal : Int) (f : Fn ν) : List (Int × Int × ν) → Fn ν → Prop where
 | nil : Steps goal f [] f
 | snoc {g : Fn ν} {n : Int} {a : Al ν} {l : List (Int × Int × ν)} : Steps goal f l g → Next goal g n a → Steps goal f (l ++ [(a.tick, n, a.name)]) (fput g n (after a))
theorem Steps.runs {goal : Int} {f g h : Fn ν} {l m : List (Int × Int × ν)} (x : Steps goal f l g) : Runs goal g m h → Runs goal f (l ++ m) h := by
 induction x generalizing m with
 | nil => exact fun y => y
 | snoc s nx ih =>
   intro y
   rw [List.append_assoc]
   exact ih (.ring nx y)
theorem Steps.trans {goal : Int} {f g h : Fn ν} {l m : List (Int × Int × ν)} (x : Steps goal f l g) (y : Steps goal g m h) : Steps goal f (l ++ m) h := by
 induction y with
 | nil => rw [List.append_nil]; exact x
 | snoc s nx ih => rw [← List.append_assoc]; exact .snoc ih nx
theorem Steps.stop {goal : Int} {f g : Fn ν} {l : List (Int × Int × ν)} (x : Steps goal f l g) (h : ∀ n a, g n = some a → goal < a.tick) : Runs goal f l g := by
 have := x.runs (.stop h)
 rw [List.append_nil] at this
 exact this
def GoodF (N : Nat) (f : Fn ν) : Prop := ∀ n a, f n = some a → (0 ≤ n ∧ n < N) ∧ ∀ k, a.step = some k → 0 < k
theorem GoodF.ring {N : Nat} {f : Fn ν} (g : GoodF N f) {n : Int} {a : Al ν} (h : f n = some a) : GoodF N (fput f n (after a)) := by
 intro m b e
 by_cases hm : m = n
 · subst hm
   rw [YE] at e
   unfold after at e
   cases hs : a.step with
   | none => rw [hs] at e; cases e
   | some q =>
     rw [hs] at e
     cases e
     exact ⟨(g m a h).1, fun k hk => (g m a h).2 k (by rw [hs]; exact hk)⟩
 · rw [XD _ _ hm] at e
   exact g m b e
def muF (goal : Int) (N : Nat) (f : Fn ν) : Nat := ((List.range N).map fun (i : Nat) => cntO goal (f (i : Int))).sum
theorem sum_change {N i : Nat} {g h : Nat → Nat} (hi : i < N) (e : h i + 1 = g i) (same : ∀ j, j ≠ i → h j = g j) : ((List.range N).map h).sum + 1 = ((List.range N).map g).sum := by
 induction N with
 | zero => omega
 | succ N ih =>
   rw [List.range_succ, List.map_append, List.map_append, List.sum_append, List.sum_append]
   simp only [List.map_cons, List.map_nil, List.sum_cons, List.sum_nil]
   by_cases h1 : i = N
   · subst h1
     have : ((List.range i).map h) = ((List.range i).map g) := by
       apply List.map_congr_left
       intro j hj
       have := List.mem_range.mp hj
       exact same j (by omega)
     rw [this]
     omega
   · have := ih (by omega)
     have := same N (fun z => h1 z.symm)
     omega
theorem muF_ring {goal : Int} {N : Nat} {f : Fn ν} (g : GoodF N f) {n : Int} {a : Al ν} (nx : Next goal f n a) : muF goal N (fput f n (after a)) + 1 = muF goal N f := by
 obtain ⟨⟨h0, h1⟩, hs⟩ := g n a nx.there
 refine sum_change (i := n.toNat) (by omega) ?_ fun j hj => ?_
 · have e : ((n.toNat : Nat) : Int) = n := by omega
   rw [e, YE, nx.there]
   exact cnt_after nx.due hs
 · rw [XD _ _ (by omega)]
theorem Steps.good {goal : Int} {N : Nat} {f g : Fn ν} {l : List (Int × Int × ν)} (x : Steps goal f l g) (hf : GoodF N f) : GoodF N g ∧ l.length + muF goal N g = muF goal N f := by
 induction x with
 | nil => exact ⟨hf, by simp⟩
 | snoc s nx ih =>
   obtain ⟨a, b⟩ := ih
   have := muF_ring a nx
   refine ⟨a.ring nx.there, ?_⟩
   rw [List.length_append, List.length_singleton]
   omega
end
end Mir
end
section
namespace Rk
open Mir
def levFrom (S now due : Int) : Nat → Nat → Nat
 | 0, i => i
 | n + 1, i => if now / S ^ (i + 1) = due / S ^ (i + 1) then i else levFrom S now due n (i + 1)
def lv (S : Int) (n : Nat) (now due : Int) : Nat := levFrom S now due n 0
theorem Ve (S now due : Int) : ∀ n i, i ≤ levFrom S now due n i ∧ levFrom S now due n i ≤ i + n ∧ (∀ j, i ≤ j → j < levFrom S now due n i → now / S ^ (j + 1) ≠ due / S ^ (j + 1)) ∧
   (levFrom S now due n i < i + n → now / S ^ (levFrom S now due n i + 1) = due / S ^ (levFrom S now due n i + 1))
 | 0, i => by simp [levFrom]; intro j h1 h2; omega
 | n + 1, i => by
   by_cases h : now / S ^ (i + 1) = due / S ^ (i + 1)
   · have e : levFrom S now due (n + 1) i = i := by rw [levFrom, if_pos h]
     rw [e]
     exact ⟨Nat.le_refl _, by omega, fun j h1 h2 => by omega, fun _ => h⟩
   · have e : levFrom S now due (n + 1) i = levFrom S now due n (i + 1) := by rw [levFrom, if_neg h]
     obtain ⟨a, b, c, d⟩ := Ve S now due n (i + 1)
     rw [e]
     refine ⟨by omega, by omega, fun j h1 h2 => ?_, fun h3 => d (by omega)⟩
     by_cases hj : j = i
     · subst hj; exact h
     · exact c j (by omega) h2
theorem TL (S : Int) (n : Nat) (now due : Int) : lv S n now due ≤ n := by have := (Ve S now due n 0).2.1; unfold lv; omega
theorem lv_ne {S : Int} {n : Nat} {now due : Int} {j : Nat} (h : j < lv S n now due) : now / S ^ (j + 1) ≠ due / S ^ (j + 1) := (Ve S now due n 0).2.2.1 j (Nat.zero_le _) h
theorem lv_eq {S : Int} {n : Nat} {now due : Int} (h : lv S n now due < n) : now / S ^ (lv S n now due + 1) = due / S ^ (lv S n now due + 1) := (Ve S now due n 0).2.2.2 (by unfold lv at h; omega)
theorem lv_of {S : Int} {n : Nat} {now due : Int} {L : Nat} (hL : L ≤ n) (h1 : ∀ j, j < L → now / S ^ (j + 1) ≠ due / S ^ (j + 1)) (h2 : L < n → now / S ^ (L + 1) = due / S ^ (L + 1)) : lv S n now due = L := by
 rcases Nat.lt_trichotomy (lv S n now due) L with h | h | h
 · exact absurd (lv_eq (Nat.lt_of_lt_of_le h hL)) (h1 _ h)
 · exact h
 · exact absurd (h2 (Nat.lt_of_lt_of_le h (TL S n now due))) (lv_ne h)
theorem pow_pos {S : Int} (hS : 0 < S) (i : Nat) : 0 < S ^ i := Int.pow_pos hS
theorem div_div {a b c : Int} (hb : 0 < b) : a / b / c = a / (b * c) := by
 rw [Int.ediv_ediv, if_neg (by omega)]
 omega
theorem div_pow_eq {S : Int} (hS : 0 < S) {a b : Int} {i j : Nat} (h : a / S ^ i = b / S ^ i) (hij : i ≤ j) : a / S ^ j = b / S ^ j := by
 have e : S ^ j = S ^ i * S ^ (j - i) := by rw [← Int.pow_add]; congr 1; omega
 rw [e, ← div_div (pow_pos hS i), ← div_div (pow_pos hS i), h]
def st (S : Int) (n : Nat) (now due : Int) : Int := due / S ^ lv S n now due * S ^ lv S n now due
theorem Sn {S : Int} (hS : 0 < S) (n : Nat) (now due : Int) : st S n now due ≤ due := Int.ediv_mul_le _ (Int.ne_of_gt (pow_pos hS _))
theorem lt_st {S : Int} (hS : 0 < S) {n : Nat} {now due : Int} (h : now < due) : now < st S n now due := by
 unfold st
 cases e : lv S n now due with
 | zero => simp; exact h
 | succ L =>
   have ne := lv_ne (S := S) (n := n) (now := now) (due := due) (j := L) (by omega)
   have p := pow_pos hS (L + 1)
   have le : now / S ^ (L + 1) ≤ due / S ^ (L + 1) := Int.ediv_le_ediv p (Int.le_of_lt h)
   have lt : now / S ^ (L + 1) < due / S ^ (L + 1) := by omega
   exact (Int.ediv_lt_iff_lt_mul p).mp lt
theorem lv_stay {S : Int} (hS : 0 < S) {n : Nat} {now t due : Int} (h1 : now ≤ t) (h2 : t < st S n now due) : lv S n t due = lv S n now due := by
 have hd : t < due := Int.lt_of_lt_of_le h2 (Sn hS n now due)
 refine lv_of (TL _ _ _ _) (fun j hj e => ?_) fun hl => ?_
 · have e2 := div_pow_eq hS (i := j + 1) (j := lv S n now due) e hj
   have p := pow_pos hS (lv S n now due)
   have : t / S ^ lv S n now due < due / S ^ lv S n now due := (Int.ediv_lt_iff_lt_mul p).mpr h2
   omega
 · have e := lv_eq hl
   have p := pow_pos hS (lv S n now due + 1)
   have a := Int.ediv_le_ediv p h1
   have b := Int.ediv_le_ediv p (Int.le_of_lt hd)
   omega
theorem SH {S : Int} (hS : 0 < S) {n : Nat} {now a b : Int} (hb : now < b) (h : lv S n now a < lv S n now b) : a < st S n now b := by
 have hl : lv S n now a < n := Nat.lt_of_lt_of_le h (TL _ _ _ _)
 have e := lv_eq hl
 have p := pow_pos hS (lv S n now a + 1)
 have q := lt_st hS (n := n) hb
 have a1 : a < (now / S ^ (lv S n now a + 1) + 1) * S ^ (lv S n now a + 1) := by rw [e]; exact Int.lt_ediv_add_one_mul_self a p
 have ee : S ^ lv S n now b = S ^ (lv S n now b - (lv S n now a + 1)) * S ^ (lv S n now a + 1) := by rw [← Int.pow_add]; congr 1; omega
 have b1 : st S n now b = (b / S ^ lv S n now b * S ^ (lv S n now b - (lv S n now a + 1))) * S ^ (lv S n now a + 1) := by
   unfold st
   rw [Int.mul_assoc, ← ee]
 have b2 : now / S ^ (lv S n now a + 1) < b / S ^ lv S n now b * S ^ (lv S n now b - (lv S n now a + 1)) := (Int.ediv_lt_iff_lt_mul p).mpr (by rw [← b1]; exact q)
 have b3 : (now / S ^ (lv S n now a + 1) + 1) * S ^ (lv S n now a + 1) ≤ (b / S ^ lv S n now b * S ^ (lv S n now b - (lv S n now a + 1))) * S ^ (lv S n now a + 1) := Int.mul_le_mul_of_nonneg_right (by omega) (Int.le_of_lt p)
 rw [b1]
 omega
theorem st_inj {S : Int} (hS : 0 < S) {n : Nat} {now a b : Int} (ha : now < a) (hb : now < b) (hs : st S n now a = st S n now b) : lv S n now a = lv S n now b := by
 rcases Nat.lt_trichotomy (lv S n now a) (lv S n now b) with h | h | h
 · have := SH hS hb h
   have := Sn hS n now a
   omega
 · exact h
 · have := SH hS ha h
   have := Sn hS n now b
   omega
end Rk
end
section
namespace Rk
open Mir
structure RowS where
 span : Int
 filled : Dct (List Int)
 rising : List Int
def pos (l : List Int) (v : Int) : Nat := l.countP (fun x => decide (x < v))
def Th (l : List Int) (i : Nat) (v : Int) : List Int := l.take i ++ v :: l.drop i
def putN (ns : List Int) (n : Int) : List Int := if n ∈ ns then ns else ns ++ [n]
def ZR (ns : List Int) (n : Int) : List Int := ns.filter fun x => !decide (x = n)
def Yj (r : RowS) (s : Int) : RowS := if (get r.filled s).isSome = true then r else ⟨r.span, put r.filled s [], Th r.rising (pos r.rising s) s⟩
def Xh (r : RowS) (s : Int) (ns : List Int) : RowS := ⟨r.span, put r.filled s ns, r.rising⟩
def UQ (r : RowS) (n s : Int) : RowS := Xh (Yj r s) s (putN ((get (Yj r s).filled s).getD []) n)
def Vs (r : RowS) (s : Int) : RowS := ⟨r.span, drop r.filled s, r.rising.eraseIdx (pos r.rising s)⟩
def YH (r : RowS) (n s : Int) : RowS :=
 if ZR ((get r.filled s).getD []) n = [] then Vs (Xh r s (ZR ((get r.filled s).getD []) n)) s else Xh r s (ZR ((get r.filled s).getD []) n)
theorem pos_le (l : List Int) (v : Int) : pos l v ≤ l.length := List.countP_le_length
theorem VF {v : Int} : ∀ {l : List Int}, l.Pairwise (· < ·) → ∀ (i : Nat) x, l[i]? = some x → (x < v ↔ i < pos l v)
 | [], _, i, x, h => by simp at h
 | a :: r, hp, i, x, h => by
   obtain ⟨h1, h2⟩ := List.pairwise_cons.mp hp
   have ih := VF (v := v) h2
   by_cases ha : a < v
   · have e : pos (a :: r) v = pos r v + 1 := by unfold pos; rw [List.countP_cons_of_pos (by simpa using ha)]
     rw [e]
     cases i with
     | zero => simp at h; subst h; simp [ha]
     | succ i =>
       have := ih i x (by simpa using h)
       omega
   · have e0 : pos (a :: r) v = pos r v := by unfold pos; rw [List.countP_cons_of_neg (by simpa using ha)]
     have e1 : pos r v = 0 := by
       unfold pos
       rw [List.countP_eq_zero]
       intro y hy
       have := h1 y hy
       simp
       omega
     rw [e0, e1]
     cases i with
     | zero => simp at h; subst h; simp; omega
     | succ i =>
       have hm : x ∈ r := List.mem_of_getElem? (by simpa using h)
       have := h1 x hm
       omega
theorem mem_take_lt {l : List Int} {v : Int} (hp : l.Pairwise (· < ·)) {x : Int} (h : x ∈ l.take (pos l v)) : x < v := by
 obtain ⟨i, hi, e⟩ := List.mem_take_iff_getElem.mp h
 refine (VF hp i x ?_).mpr (by omega)
 rw [← e]
 simp
theorem mem_drop_ge {l : List Int} {v : Int} (hp : l.Pairwise (· < ·)) {x : Int} (h : x ∈ l.drop (pos l v)) : v ≤ x := by
 obtain ⟨i, hi, e⟩ := List.mem_drop_iff_getElem.mp h
 have q := (VF (v := v) hp (pos l v + i) x (by rw [← e]; simp))
 omega
theorem mem_insAt {l : List Int} {i : Nat} {v x : Int} : x ∈ Th l i v ↔ x = v ∨ x ∈ l := by
 unfold Th
 constructor
 · intro h
   rcases List.mem_append.mp h with h | h
   · exact .inr (List.mem_of_mem_take h)
   · rcases List.mem_cons.mp h with h | h
     · exact .inl h
     · exact .inr (List.mem_of_mem_drop h)
 · rintro (rfl | h)
   · exact List.mem_append.mpr (.inr List.mem_cons_self)
   · have : x ∈ l.take i ++ l.drop i := by rw [List.take_append_drop]; exact h
     rcases List.mem_append.mp this with q | q
     · exact List.mem_append.mpr (.inl q)
     · exact List.mem_append.mpr (.inr (List.mem_cons_of_mem _ q))
theorem srt_insAt {l : List Int} {v : Int} (hp : l.Pairwise (· < ·)) (hv : v ∉ l) : (Th l (pos l v) v).Pairwise (· < ·) := by
 unfold Th
 have hd : ∀ x ∈ l.drop (pos l v), v < x := fun x hx => by
   have := mem_drop_ge hp hx
   have : x ≠ v := fun z => hv (z ▸ List.mem_of_mem_drop hx)
   omega
 refine List.pairwise_append.mpr ⟨hp.sublist (List.take_sublist _ _), List.pairwise_cons.mpr ⟨hd, hp.sublist (List.drop_sublist _ _)⟩, fun a ha b hb => ?_⟩
 have h1 := mem_take_lt hp ha
 rcases List.mem_cons.mp hb with rfl | hb
 · exact h1
 · have := hd b hb
   omega
theorem at_pos {l : List Int} {v : Int} (hp : l.Pairwise (· < ·)) (hv : v ∈ l) : l[pos l v]? = some v := by
 obtain ⟨i, hi, e⟩ := List.mem_iff_getElem.mp hv
 have q := VF (v := v) hp i v (by rw [← e]; simp [hi])
 have hle : pos l v ≤ i := by omega
 rcases Nat.lt_or_ge (pos l v) i with z | z
 · have hj : pos l v < l.length := by omega
   have q2 := VF (v := v) hp (pos l v) l[pos l v] (by simp [hj])
   have q3 : l[pos l v] < l[i] := List.pairwise_iff_getElem.mp hp _ _ hj hi z
   omega
 · have e2 : pos l v = i := by omega
   rw [e2, ← e]
   simp [hi]
theorem Xd {l : List Int} (hp : l.Pairwise (· < ·)) : l.Nodup := hp.imp fun h => Int.ne_of_lt h
theorem RH {l : List Int} {v x : Int} (hp : l.Pairwise (· < ·)) (hv : v ∈ l) : x ∈ l.eraseIdx (pos l v) ↔ x ∈ l ∧ x ≠ v := by
 have e := at_pos hp hv
 obtain ⟨hk, ev⟩ := List.getElem?_eq_some_iff.mp e
 rw [List.mem_eraseIdx_iff_getElem]
 constructor
 · rintro ⟨i, hi, hne, rfl⟩
   refine ⟨List.getElem_mem hi, fun z => ?_⟩
   rcases Nat.lt_trichotomy i (pos l v) with q | q | q
   · have := List.pairwise_iff_getElem.mp hp _ _ hi hk q
     omega
   · exact hne q
   · have := List.pairwise_iff_getElem.mp hp _ _ hk hi q
     omega
 · rintro ⟨hm, hne⟩
   obtain ⟨i, hi, rfl⟩ := List.mem_iff_getElem.mp hm
   exact ⟨i, hi, fun z => hne (by subst z; exact ev), rfl⟩
theorem srt_eq {l m : List Int} (hl : l.Pairwise (· < ·)) (hm : m.Pairwise (· < ·)) (h : ∀ x, x ∈ l ↔ x ∈ m) : l = m := by
 have hp : l.Perm m := by
   rw [List.perm_iff_count]
   intro a
   by_cases ha : a ∈ l
   · rw [List.Nodup.count (Xd hl), List.Nodup.count (Xd hm), if_pos ha, if_pos ((h a).mp ha)]
   · rw [List.Nodup.count (Xd hl), List.Nodup.count (Xd hm), if_neg ha, if_neg fun z => ha ((h a).mpr z)]
 exact hp.eq_of_pairwise (fun a b _ _ h1 h2 => by omega) hl hm
theorem Uc {l m : List Int} (hp : l.Perm m) (hs : l.Pairwise (· ≤ ·)) (hn : m.Nodup) : l.Pairwise (· < ·) ∧ ∀ x, x ∈ l ↔ x ∈ m := by
 have hn' : l.Nodup := hp.nodup_iff.mpr hn
 exact ⟨hs.imp₂ (fun a b h1 h2 => by omega) hn', fun x => hp.mem_iff⟩
structure RowOK (r : RowS) (g : Int → Option Int) : Prop where
 sp : 0 < r.span
 ndk : (keys r.filled).Nodup
 srt : r.rising.Pairwise (· < ·)
 mem : ∀ s, s ∈ r.rising ↔ (get r.filled s).isSome = true
 nd : ∀ s ns, get r.filled s = some ns → ns.Nodup
 ne : ∀ s ns, get r.filled s = some ns → ns ≠ []
 has : ∀ n s, (∃ ns, get r.filled s = some ns ∧ n ∈ ns) ↔ ∃ t, g n = some t ∧ t / r.span = s
def gput (g : Int → Option Int) (n : Int) (o : Option Int) : Int → Option Int := fun m => if m = n then o else g m
theorem mem_putN {ns : List Int} {n m : Int} : m ∈ putN ns n ↔ m = n ∨ m ∈ ns := by
 unfold putN
 by_cases h : n ∈ ns
 · rw [if_pos h]
   exact ⟨.inr, fun z => z.elim (fun e => e ▸ h) id⟩
 · rw [if_neg h, List.mem_append, List.mem_singleton]
   exact ⟨fun z => z.elim .inr .inl, fun z => z.elim .inr .inl⟩
theorem nd_putN {ns : List Int} {n : Int} (h : ns.Nodup) : (putN ns n).Nodup := by
 unfold putN
 by_cases hn : n ∈ ns
 · rw [if_pos hn]; exact h
 · rw [if_neg hn, List.nodup_append]
   refine ⟨h, by simp, fun a ha b hb e => ?_⟩
   have : b = n := by simpa using hb
   subst this
   exact hn (e ▸ ha)
theorem mem_dropN {ns : List Int} {n m : Int} : m ∈ ZR ns n ↔ m ∈ ns ∧ m ≠ n := by
 unfold ZR
 rw [List.mem_filter]
 simp
theorem UP (r : RowS) (s x : Int) : get (Yj r s).filled x = if x = s then some ((get r.filled s).getD []) else get r.filled x := by
 unfold Yj
 by_cases h : (get r.filled s).isSome = true
 · rw [if_pos h]
   by_cases e : x = s
   · subst e
     rw [if_pos rfl]
     obtain ⟨v, hv⟩ := Option.isSome_iff_exists.mp h
     rw [hv]
     rfl
   · rw [if_neg e]
 · rw [if_neg h]
   show get (put r.filled s []) x = _
   rw [ZB]
   have hn : get r.filled s = none := by simpa using h
   rw [hn]
   rfl
theorem Ud (r : RowS) (s : Int) : (Yj r s).span = r.span := by unfold Yj; by_cases h : (get r.filled s).isSome = true <;> simp [h]
theorem slotIn_mem {r : RowS} {g : Int → Option Int} (R : RowOK r g) (s x : Int) : x ∈ (Yj r s).rising ↔ x = s ∨ x ∈ r.rising := by
 unfold Yj
 by_cases h : (get r.filled s).isSome = true
 · rw [if_pos h]
   exact ⟨.inr, fun z => z.elim (fun e => e ▸ (R.mem s).mpr h) id⟩
 · rw [if_neg h]
   exact mem_insAt
theorem slotIn_srt {r : RowS} {g : Int → Option Int} (R : RowOK r g) (s : Int) : (Yj r s).rising.Pairwise (· < ·) := by
 unfold Yj
 by_cases h : (get r.filled s).isSome = true
 · rw [if_pos h]; exact R.srt
 · rw [if_neg h]
   exact srt_insAt R.srt fun z => h ((R.mem s).mp z)
theorem slotIn_ndk {r : RowS} {g : Int → Option Int} (R : RowOK r g) (s : Int) : (keys (Yj r s).filled).Nodup := by
 unfold Yj
 by_cases h : (get r.filled s).isSome = true
 · rw [if_pos h]; exact R.ndk
 · rw [if_neg h]; exact ZY R.ndk _ _
theorem VN (r : RowS) (n s x : Int) : get (UQ r n s).filled x = if x = s then some (putN ((get r.filled s).getD []) n) else get r.filled x := by
 show get (put (Yj r s).filled s _) x = _
 rw [ZB, UP, UP]
 by_cases e : x = s
 · simp [e]
 · simp [e]
theorem rowPut_ok {r : RowS} {g : Int → Option Int} (R : RowOK r g) {n t : Int} (hn : g n = none) : RowOK (UQ r n (t / r.span)) (gput g n (some t)) where
 sp := by show 0 < (Yj r _).span; rw [Ud]; exact R.sp
 ndk := ZY (slotIn_ndk R _) _ _
 srt := slotIn_srt R _
 mem := fun s => by
   show s ∈ (Yj r _).rising ↔ _
   rw [slotIn_mem R, VN]
   by_cases e : s = t / r.span
   · simp [e]
   · simp only [e, false_or, if_false]
     exact R.mem s
 nd := fun s ns h => by
   rw [VN] at h
   by_cases e : s = t / r.span
   · rw [if_pos e] at h
     cases h
     refine nd_putN ?_
     cases q : get r.filled (t / r.span) with
     | none => simp
     | some l => exact R.nd _ _ q
   · rw [if_neg e] at h
     exact R.nd _ _ h
 ne := fun s ns h z => by
   rw [VN] at h
   by_cases e : s = t / r.span
   · rw [if_pos e] at h
     cases h
     have : n ∈ putN ((get r.filled (t / r.span)).getD []) n := mem_putN.mpr (.inl rfl)
     rw [z] at this
     cases this
   · rw [if_neg e] at h
     exact R.ne _ _ h z
 has := fun m s => by
   have hsp : (UQ r n (t / r.span)).span = r.span := Ud _ _
   rw [VN, hsp]
   have key := R.has m s
   by_cases em : m = n
   · subst em
     have no : ¬ ∃ ns, get r.filled s = some ns ∧ m ∈ ns := fun z => by
       obtain ⟨t', ht, _⟩ := key.mp z
       rw [hn] at ht
       cases ht
     simp only [gput, if_true]
     constructor
     · rintro ⟨ns, h, hm⟩
       by_cases e : s = t / r.span
       · exact ⟨t, rfl, e.symm⟩
       · rw [if_neg e] at h
         exact (no ⟨ns, h, hm⟩).elim
     · rintro ⟨t', e1, e2⟩
       cases e1
       rw [if_pos e2.symm]
       exact ⟨_, rfl, mem_putN.mpr (.inl rfl)⟩
   · simp only [gput, if_neg em]
     rw [← key]
     by_cases e : s = t / r.span
     · subst e
       rw [if_pos rfl]
       constructor
       · rintro ⟨ns, h, hm⟩
         cases h
         rcases mem_putN.mp hm with z | z
         · exact (em z).elim
         · cases q : get r.filled (t / r.span) with
           | none => rw [q] at z; cases z
           | some l => exact ⟨l, rfl, by rw [q] at z; exact z⟩
       · rintro ⟨ns, h, hm⟩
         refine ⟨_, rfl, mem_putN.mpr (.inr ?_)⟩
         rw [h]
         exact hm
     · rw [if_neg e]
theorem slotOut_ok {r : RowS} {g : Int → Option Int} (R : RowOK r g) {s : Int} (hs : s ∈ r.rising) : RowOK (Vs r s) (fun n => (g n).filter fun t => !decide (t / r.span = s)) where
 sp := R.sp
 ndk := ZN R.ndk _
 srt := R.srt.sublist (List.eraseIdx_sublist _ _)
 mem := fun x => by
   show x ∈ r.rising.eraseIdx (pos r.rising s) ↔ (get (drop r.filled s) x).isSome = true
   rw [RH R.srt hs, Zx, R.mem x]
   by_cases e : x = s <;> simp [e]
 nd := fun x ns h => by
   have h' : get (drop r.filled s) x = some ns := h
   rw [Zx] at h'
   by_cases e : x = s
   · rw [if_pos e] at h'; cases h'
   · rw [if_neg e] at h'; exact R.nd _ _ h'
 ne := fun x ns h => by
   have h' : get (drop r.filled s) x = some ns := h
   rw [Zx] at h'
   by_cases e : x = s
   · rw [if_pos e] at h'; cases h'
   · rw [if_neg e] at h'; exact R.ne _ _ h'
 has := fun m x => by
   show (∃ ns, get (drop r.filled s) x = some ns ∧ m ∈ ns) ↔ _
   rw [Zx]
   have key := R.has m x
   by_cases e : x = s
   · rw [if_pos e]
     constructor
     · rintro ⟨ns, h, _⟩
       cases h
     · rintro ⟨t, h, h2⟩
       rw [Option.filter_eq_some_iff] at h
       have : ¬ t / r.span = s := by simpa using h.2
       exact (this (h2.trans e)).elim
   · rw [if_neg e, key]
     constructor
     · rintro ⟨t, h, h2⟩
       refine ⟨t, ?_, h2⟩
       rw [Option.filter_eq_some_iff]
       exact ⟨h, by simp; rw [show r.span = (Vs r s).span from rfl] at h2; intro z; exact e (h2 ▸ z)⟩
     · rintro ⟨t, h, h2⟩
       rw [Option.filter_eq_some_iff] at h
       exact ⟨t, h.1, h2⟩
theorem rowTake_get (r : RowS) (n s x : Int) : get (YH r n s).filled x = if x = s then (if ZR ((get r.filled s).getD []) n = [] then none else some (ZR ((get r.filled s).getD []) n)) else get r.filled x := by
 unfold YH
 by_cases h : ZR ((get r.filled s).getD []) n = []
 · rw [if_pos h, if_pos h]
   show get (drop (put r.filled s _) s) x = _
   rw [Zx, ZB]
   by_cases e : x = s <;> simp [e]
 · rw [if_neg h, if_neg h]
   show get (put r.filled s _) x = _
   rw [ZB]
theorem rowTake_ok {r : RowS} {g : Int → Option Int} (R : RowOK r g) {n t : Int} (hn : g n = some t) : RowOK (YH r n (t / r.span)) (gput g n none) := by
 obtain ⟨ns, hns, hm⟩ := (R.has n (t / r.span)).mpr ⟨t, hn, rfl⟩
 have hs : t / r.span ∈ r.rising := (R.mem _).mpr (by rw [hns]; rfl)
 have G := rowTake_get r n (t / r.span)
 rw [hns] at G
 simp only [Option.getD_some] at G
 have sp : (YH r n (t / r.span)).span = r.span := by unfold YH; by_cases h : ZR ((get r.filled (t / r.span)).getD []) n = [] <;> simp [h, Vs, Xh]
 have ri : ∀ x, x ∈ (YH r n (t / r.span)).rising ↔ x ∈ r.rising ∧ (x = t / r.span → ZR ns n ≠ []) := fun x => by
   unfold YH
   rw [hns]
   simp only [Option.getD_some]
   by_cases h : ZR ns n = []
   · rw [if_pos h]
     show x ∈ r.rising.eraseIdx (pos r.rising (t / r.span)) ↔ _
     rw [RH R.srt hs]
     simp [h]
   · rw [if_neg h]
     show x ∈ r.rising ↔ _
     simp [h]
 refine ⟨by rw [sp]; exact R.sp, ?_, ?_, fun x => ?_, fun x l h => ?_, fun x l h => ?_, fun m x => ?_⟩
 · unfold YH
   by_cases h : ZR ((get r.filled (t / r.span)).getD []) n = []
   · rw [if_pos h]
     exact ZN (ZY R.ndk _ _) _
   · rw [if_neg h]
     exact ZY R.ndk _ _
 · unfold YH
   by_cases h : ZR ((get r.filled (t / r.span)).getD []) n = []
   · rw [if_pos h]
     exact R.srt.sublist (List.eraseIdx_sublist _ _)
   · rw [if_neg h]
     exact R.srt
 · rw [ri, G, R.mem x]
   by_cases e : x = t / r.span
   · rw [if_pos e]
     subst e
     by_cases h : ZR ns n = [] <;> simp [h, hns]
   · simp [e]
 · rw [G] at h
   by_cases e : x = t / r.span
   · rw [if_pos e] at h
     by_cases h0 : ZR ns n = []
     · rw [if_pos h0] at h; cases h
     · rw [if_neg h0] at h
       cases h
       exact (R.nd _ _ hns).sublist List.filter_sublist
   · rw [if_neg e] at h
     exact R.nd _ _ h
 · rw [G] at h
   by_cases e : x = t / r.span
   · rw [if_pos e] at h
     by_cases h0 : ZR ns n = []
     · rw [if_pos h0] at h; cases h
     · rw [if_neg h0] at h
       cases h
       exact h0
   · rw [if_neg e] at h
     exact R.ne _ _ h
 · rw [G, sp]
   have key := R.has m x
   have step : (∃ l, (if x = t / r.span then (if ZR ns n = [] then none else some (ZR ns n)) else get r.filled x) = some l ∧ m ∈ l) ↔ (∃ l, get r.filled x = some l ∧ m ∈ l) ∧ (x = t / r.span → m ≠ n) := by
     by_cases e : x = t / r.span
     · subst e
       rw [if_pos rfl]
       constructor
       · rintro ⟨l, h, hl⟩
         by_cases h0 : ZR ns n = []
         · rw [if_pos h0] at h; cases h
         · rw [if_neg h0] at h
           cases h
           obtain ⟨a, b⟩ := mem_dropN.mp hl
           exact ⟨⟨ns, hns, a⟩, fun _ => b⟩
       · rintro ⟨⟨l, h, hl⟩, hne⟩
         rw [hns] at h
         cases h
         have : m ∈ ZR ns n := mem_dropN.mpr ⟨hl, hne rfl⟩
         have h0 : ZR ns n ≠ [] := fun z => by rw [z] at this; cases this
         rw [if_neg h0]
         exact ⟨_, rfl, this⟩
     · rw [if_neg e]
       exact ⟨fun z => ⟨z, fun q => (e q).elim⟩, fun z => z.1⟩
   rw [step, key]
   unfold gput
   by_cases em : m = n
   · subst em
     rw [if_pos rfl]
     constructor
     · rintro ⟨⟨t', h1, h2⟩, h3⟩
       rw [hn] at h1
       cases h1
       exact (h3 h2.symm rfl).elim
     · rintro ⟨t', h1, _⟩
       cases h1
   · rw [if_neg em]
     exact ⟨fun z => z.1, fun z => ⟨z, fun _ => em⟩⟩
theorem YR {r : RowS} {g g' : Int → Option Int} (R : RowOK r g) (h : ∀ n, g n = g' n) : RowOK r g' := by
 have : g = g' := funext h
 exact this ▸ R
theorem row_small {r : RowS} {g : Int → Option Int} (R : RowOK r g) {N : Nat} (dom : ∀ n t, g n = some t → 0 ≤ n ∧ n < N) : r.rising.length ≤ N ∧ r.filled.length ≤ N ∧ ∀ s ns, get r.filled s = some ns → ns.length ≤ N := by
 have rng : ∀ n t, g n = some t → n ∈ (List.range N).map (fun (i : Nat) => (i : Int)) := fun n t h => by
   obtain ⟨a, b⟩ := dom n t h
   exact List.mem_map.mpr ⟨n.toNat, List.mem_range.mpr (by omega), by omega⟩
 have c1 : ∀ s ns, get r.filled s = some ns → ns.length ≤ N := fun s ns h => by
   have q := (R.nd s ns h).length_le_of_subset (l₂ := (List.range N).map (fun (i : Nat) => (i : Int))) fun n hn => by
     obtain ⟨t, ht, _⟩ := (R.has n s).mp ⟨ns, h, hn⟩
     exact rng n t ht
   simpa using q
 have pick : ∀ s, s ∈ r.rising → ∃ n t, g n = some t ∧ t / r.span = s := fun s hs => by
   obtain ⟨ns, h⟩ := Option.isSome_iff_exists.mp ((R.mem s).mp hs)
   cases e : ns with
   | nil => exact (R.ne s ns h e).elim
   | cons n l =>
     obtain ⟨t, ht, h2⟩ := (R.has n s).mp ⟨ns, h, by rw [e]; exact List.mem_cons_self⟩
     exact ⟨n, t, ht, h2⟩
 have c2 : ∀ l : List Int, l.Nodup → (∀ s ∈ l, s ∈ r.rising) → ∃ m : List Int, m.length = l.length ∧ m.Nodup ∧ ∀ n ∈ m, ∃ t, g n = some t ∧ t / r.span ∈ l := by
   intro l
   induction l with
   | nil => exact fun _ _ => ⟨[], rfl, List.nodup_nil, fun n h => by cases h⟩
   | cons s l ih =>
     intro hn hs
     obtain ⟨h1, h2⟩ := List.nodup_cons.mp hn
     obtain ⟨m, hl, hm, hg⟩ := ih h2 fun x hx => hs x (List.mem_cons_of_mem _ hx)
     obtain ⟨n, t, ht, hts⟩ := pick s (hs s List.mem_cons_self)
     refine ⟨n :: m, by simp [hl], List.nodup_cons.mpr ⟨fun z => ?_, hm⟩, fun x hx => ?_⟩
     · obtain ⟨t', ht', hx⟩ := hg n z
       rw [ht] at ht'
       cases ht'
       rw [hts] at hx
       exact h1 hx
     · rcases List.mem_cons.mp hx with rfl | hx
       · exact ⟨t, ht, by rw [hts]; exact List.mem_cons_self⟩
       · obtain ⟨t', a, b⟩ := hg x hx
         exact ⟨t', a, List.mem_cons_of_mem _ b⟩
 have c3 : r.rising.length ≤ N := by
   obtain ⟨m, hl, hm, hg⟩ := c2 r.rising (Xd R.srt) fun _ h => h
   have q := hm.length_le_of_subset (l₂ := (List.range N).map (fun (i : Nat) => (i : Int))) fun n hn => by
     obtain ⟨t, ht, _⟩ := hg n hn
     exact rng n t ht
   rw [hl] at q
   simpa using q
 refine ⟨c3, ?_, c1⟩
 have q := R.ndk.length_le_of_subset (l₂ := r.rising) fun s hs => (R.mem s).mpr (by
   cases e : get r.filled s with
   | none => exact (get_none.mp e hs).elim
   | some v => rfl)
 have e : (keys r.filled).length = r.filled.length := by simp [keys]
 omega
end Rk
end
section
namespace Rk
open Mir
def fil (S : Int) (n : Nat) (now : Int) (f : Int → Option Int) (i : Nat) : Int → Option Int := fun k => (f k).filter fun t => decide (lv S n now t = i)
theorem fil_some {S : Int} {n : Nat} {now : Int} {f : Int → Option Int} {i : Nat} {k t : Int} : fil S n now f i k = some t ↔ f k = some t ∧ lv S n now t = i := by
 unfold fil
 rw [Option.filter_eq_some_iff]
 simp
structure RackOK (S : Int) (n : Nat) (now : Int) (rows : List RowS) (f : Int → Option Int) : Prop where
 hS : 2 ≤ S
 len : rows.length = n + 1
 span : ∀ (i : Nat) r, rows[i]? = some r → r.span = S ^ i
 row : ∀ (i : Nat) r, rows[i]? = some r → RowOK r (fil S n now f i)
 ahead : ∀ k t, f k = some t → now < t
 dom : ∀ k t, f k = some t → 0 ≤ k ∧ k < 63
section
variable {S : Int} {n : Nat} {now : Int} {rows : List RowS} {f : Int → Option Int}
theorem RackOK.pS (R : RackOK S n now rows f) : 0 < S := by have := R.hS; omega
theorem RackOK.at (R : RackOK S n now rows f) {i : Nat} (h : i ≤ n) : ∃ r, rows[i]? = some r := by
 have : i < rows.length := by have := R.len; omega
 exact ⟨rows[i], by simp [this]⟩
theorem Ts {r : RowS} {L i : Nat} {r' : RowS} (h : rows[L]? = some r) (e : (rows.set L r')[i]? = some r'') : (i = L ∧ r'' = r') ∨ (i ≠ L ∧ rows[i]? = some r'') := by
 rw [List.getElem?_set] at e
 by_cases hi : L = i
 · subst hi
   have hl : L < rows.length := (List.getElem?_eq_some_iff.mp h).1
   rw [if_pos rfl, if_pos hl] at e
   exact .inl ⟨rfl, (Option.some.inj e).symm⟩
 · rw [if_neg hi] at e
   exact .inr ⟨fun z => hi z.symm, e⟩
theorem RackOK.put (R : RackOK S n now rows f) {k t : Int} {r : RowS} (hk : f k = none) (ht : now < t) (hd : 0 ≤ k ∧ k < 63) (hr : rows[lv S n now t]? = some r) :
   RackOK S n now (rows.set (lv S n now t) (UQ r k (t / r.span))) (gput f k (some t)) where
 hS := R.hS
 len := by rw [List.length_set]; exact R.len
 span := fun i r' e => by
   rcases Ts hr e with ⟨rfl, rfl⟩ | ⟨_, e⟩
   · show (Yj r _).span = _
     rw [Ud]
     exact R.span _ _ hr
   · exact R.span i r' e
 row := fun i r' e => by
   rcases Ts hr e with ⟨rfl, rfl⟩ | ⟨hi, e⟩
   · refine YR (rowPut_ok (R.row _ _ hr) (n := k) (t := t) ?_) fun m => ?_
     · unfold fil
       rw [hk]
       rfl
     · unfold gput fil
       by_cases em : m = k
       · simp [em, Option.filter]
       · simp [em]
   · refine YR (R.row i r' e) fun m => ?_
     unfold gput fil
     dsimp only
     by_cases em : m = k
     · subst em
       rw [if_pos rfl, hk]
       simp [Option.filter, Ne.symm hi]
     · rw [if_neg em]
 ahead := fun m t' e => by
   unfold gput at e
   by_cases em : m = k
   · rw [if_pos em] at e; cases e; exact ht
   · rw [if_neg em] at e; exact R.ahead m t' e
 dom := fun m t' e => by
   unfold gput at e
   by_cases em : m = k
   · rw [if_pos em] at e; cases e; rw [em]; exact hd
   · rw [if_neg em] at e; exact R.dom m t' e
theorem RackOK.take (R : RackOK S n now rows f) {k t : Int} {r : RowS} (hk : f k = some t) (hr : rows[lv S n now t]? = some r) :
   RackOK S n now (rows.set (lv S n now t) (YH r k (t / r.span))) (gput f k none) where
 hS := R.hS
 len := by rw [List.length_set]; exact R.len
 span := fun i r' e => by
   rcases Ts hr e with ⟨rfl, rfl⟩ | ⟨_, e⟩
   · have : (YH r k (t / r.span)).span = r.span := by unfold YH; by_cases h : ZR ((get r.filled (t / r.span)).getD []) k = [] <;> simp [h, Vs, Xh]
     rw [this]
     exact R.span _ _ hr
   · exact R.span i r' e
 row := fun i r' e => by
   rcases Ts hr e with ⟨rfl, rfl⟩ | ⟨hi, e⟩
   · refine YR (rowTake_ok (R.row _ _ hr) (n := k) (t := t) ?_) fun m => ?_
     · exact fil_some.mpr ⟨hk, rfl⟩
     · unfold gput fil
       by_cases em : m = k
       · simp [em, Option.filter]
       · simp [em]
   · refine YR (R.row i r' e) fun m => ?_
     unfold gput fil
     dsimp only
     by_cases em : m = k
     · subst em
       rw [if_pos rfl, hk]
       simp [Option.filter, Ne.symm hi]
     · rw [if_neg em]
 ahead := fun m t' e => by
   unfold gput at e
   by_cases em : m = k
   · rw [if_pos em] at e; cases e
   · rw [if_neg em] at e; exact R.ahead m t' e
 dom := fun m t' e => by
   unfold gput at e
   by_cases em : m = k
   · rw [if_pos em] at e; cases e
   · rw [if_neg em] at e; exact R.dom m t' e
theorem RackOK.out (R : RackOK S n now rows f) {L : Nat} {r : RowS} {s : Int} (hr : rows[L]? = some r) (hs : s ∈ r.rising) :
   RackOK S n now (rows.set L (Vs r s)) (fun k => (f k).filter fun t => !decide (lv S n now t = L ∧ t / S ^ L = s)) where
 hS := R.hS
 len := by rw [List.length_set]; exact R.len
 span := fun i r' e => by
   rcases Ts hr e with ⟨rfl, rfl⟩ | ⟨_, e⟩
   · show r.span = _
     exact R.span _ _ hr
   · exact R.span i r' e
 row := fun i r' e => by
   rcases Ts hr e with ⟨rfl, rfl⟩ | ⟨hi, e⟩
   · refine YR (slotOut_ok (R.row _ _ hr) hs) fun m => ?_
     rw [R.span _ _ hr]
     unfold fil
     dsimp only
     cases f m with
     | none => rfl
     | some t =>
       by_cases h1 : lv S n now t = i
       · by_cases h2 : t / S ^ i = s <;> simp [Option.filter, h1, h2]
       · simp [Option.filter, h1]
   · refine YR (R.row i r' e) fun m => ?_
     unfold fil
     dsimp only
     cases f m with
     | none => rfl
     | some t =>
       by_cases h1 : lv S n now t = i
       · have : ¬ lv S n now t = L := fun z => hi (h1.symm.trans z)
         simp [Option.filter, h1, hi]
       · by_cases h2 : lv S n now t = L ∧ t / S ^ L = s <;> simp [Option.filter, h1, h2, Ne.symm hi]
 ahead := fun m t' e => by
   rw [Option.filter_eq_some_iff] at e
   exact R.ahead m t' e.1
 dom := fun m t' e => by
   rw [Option.filter_eq_some_iff] at e
   exact R.dom m t' e.1
theorem RackOK.later (R : RackOK S n now rows f) {now' : Int} (h1 : now ≤ now') (h2 : ∀ k t, f k = some t → now' < st S n now t) : RackOK S n now' rows f where
 hS := R.hS
 len := R.len
 span := R.span
 row := fun i r e => YR (R.row i r e) fun m => by
   unfold fil
   cases e : f m with
   | none => rfl
   | some t => simp [Option.filter, lv_stay R.pS h1 (h2 m t e)]
 ahead := fun k t e => Int.lt_of_lt_of_le (h2 k t e) (Sn R.pS n now t)
 dom := R.dom
theorem RackOK.congr {f' : Int → Option Int} (R : RackOK S n now rows f) (h : ∀ k, f k = f' k) : RackOK S n now rows f' := by
 have : f = f' := funext h
 exact this ▸ R
theorem RackOK.none_first (R : RackOK S n now rows f) (h : ∀ (i : Nat) r, rows[i]? = some r → r.rising = []) : ∀ k, f k = none := fun k => by
 cases e : f k with
 | none => rfl
 | some t =>
   obtain ⟨r, hr⟩ := R.at (TL S n now t)
   have Q := R.row _ _ hr
   obtain ⟨ns, h1, h2⟩ := (Q.has k (t / r.span)).mpr ⟨t, fil_some.mpr ⟨e, rfl⟩, rfl⟩
   have := (Q.mem (t / r.span)).mpr (by rw [h1]; rfl)
   rw [h _ r hr] at this
   cases this
structure First (S : Int) (n : Nat) (now : Int) (f : Int → Option Int) (L : Nat) (s : Int) : Prop where
 le : L ≤ n
 one : ∃ k t, f k = some t ∧ lv S n now t = L ∧ t / S ^ L = s
 least : ∀ k t, f k = some t → s * S ^ L ≤ st S n now t
 just : ∀ k t, f k = some t → (st S n now t = s * S ^ L ↔ lv S n now t = L ∧ t / S ^ L = s)
theorem RackOK.first (R : RackOK S n now rows f) {L : Nat} {r : RowS} {s : Int} (hr : rows[L]? = some r) (hs : r.rising[0]? = some s) (low : ∀ (i : Nat) r', i < L → rows[i]? = some r' → r'.rising = []) : First S n now f L s := by
 have Q := R.row _ _ hr
 have sp := R.span _ _ hr
 have hm : s ∈ r.rising := List.mem_of_getElem? hs
 have hL : L ≤ n := by have := (List.getElem?_eq_some_iff.mp hr).1; have := R.len; omega
 obtain ⟨ns, hns⟩ := Option.isSome_iff_exists.mp ((Q.mem s).mp hm)
 obtain ⟨k0, t0, h0, l0, d0⟩ : ∃ k t, f k = some t ∧ lv S n now t = L ∧ t / S ^ L = s := by
   cases e : ns with
   | nil => exact (Q.ne s ns hns e).elim
   | cons k l =>
     obtain ⟨t, ht, h2⟩ := (Q.has k s).mp ⟨ns, hns, by rw [e]; exact List.mem_cons_self⟩
     obtain ⟨a, b⟩ := fil_some.mp ht
     exact ⟨k, t, a, b, by rw [← sp]; exact h2⟩
 have s0 : st S n now t0 = s * S ^ L := by unfold st; rw [l0, d0]
 have ge : ∀ k t, f k = some t → L ≤ lv S n now t := fun k t e => by
   rcases Nat.lt_or_ge (lv S n now t) L with z | z
   · obtain ⟨r', hr'⟩ := R.at (TL S n now t)
     have Q' := R.row _ _ hr'
     obtain ⟨ns', h1, h2⟩ := (Q'.has k (t / r'.span)).mpr ⟨t, fil_some.mpr ⟨e, rfl⟩, rfl⟩
     have := (Q'.mem (t / r'.span)).mpr (by rw [h1]; rfl)
     rw [low _ r' z hr'] at this
     cases this
   · exact z
 have p := pow_pos R.pS L
 have same : ∀ k t, f k = some t → lv S n now t = L → s ≤ t / S ^ L := fun k t e hl => by
   obtain ⟨ns', h1, h2⟩ := (Q.has k (t / r.span)).mpr ⟨t, fil_some.mpr ⟨e, hl⟩, rfl⟩
   have hx := (Q.mem (t / r.span)).mpr (by rw [h1]; rfl)
   rw [sp] at hx
   obtain ⟨j, hj, ej⟩ := List.mem_iff_getElem.mp hx
   obtain ⟨h00, es⟩ := List.getElem?_eq_some_iff.mp hs
   by_cases hj0 : j = 0
   · subst hj0
     omega
   · have := List.pairwise_iff_getElem.mp Q.srt 0 j h00 hj (by omega)
     omega
 refine ⟨hL, ⟨k0, t0, h0, l0, d0⟩, fun k t e => ?_, fun k t e => ⟨fun hst => ?_, fun ⟨hl, hd⟩ => by unfold st; rw [hl, hd]⟩⟩
 · rcases Nat.lt_or_ge L (lv S n now t) with z | z
   · have := SH R.pS (R.ahead k t e) (a := t0) (by rw [l0]; exact z)
     have := Sn R.pS n now t0
     omega
   · have hl : lv S n now t = L := Nat.le_antisymm z (ge k t e)
     have := same k t e hl
     unfold st
     rw [hl]
     exact Int.mul_le_mul_of_nonneg_right this (Int.le_of_lt p)
 · rw [← s0] at hst
   have hl := st_inj R.pS (R.ahead k t e) (R.ahead k0 t0 h0) hst
   rw [l0] at hl
   refine ⟨hl, ?_⟩
   unfold st at hst
   rw [hl, l0, d0] at hst
   exact Int.eq_of_mul_eq_mul_right (Int.ne_of_gt p) hst
end
end Rk
end
section
namespace Tb
open PySem L2 Mir Rk
section
variable {α : Type}
def mapK (f : Int → α → V) (t : Dct α) : List (Key × V) := t.map fun p => (Sum.inl p.1, f p.1 p.2)
theorem ZW (f : Int → α → V) (t : Dct α) (n : Int) : valV (mapK f t) (Sum.inl n) = (get t n).map (f n) := by
 induction t with
 | nil => rfl
 | cons p t ih =>
   show valV ((Sum.inl p.1, f p.1 p.2) :: mapK f t) (Sum.inl n) = _
   rw [Yi]
   by_cases e : p.1 = n
   · rw [if_pos e, UY (by rw [e])]
     rw [e]
     rfl
   · rw [if_neg e, UZ (fun z => e (Sum.inl.inj z)), ih]
theorem mapK_any (f : Int → α → V) (t : Dct α) (n : Int) : ((mapK f t).any fun kv => decide (kv.1 = Sum.inl n)) = t.any fun p => decide (p.1 = n) := by
 unfold mapK
 rw [List.any_map]
 congr 1
 funext p
 simp
theorem XQ (f : Int → α → V) (t : Dct α) (n : Int) (a : α) : putK (mapK f t) (Sum.inl n) (f n a) = mapK f (put t n a) := by
 unfold putK put
 rw [mapK_any]
 by_cases h : (t.any fun p => decide (p.1 = n)) = true
 · rw [if_pos h, if_pos h]
   unfold mapK
   rw [List.map_map, List.map_map]
   apply List.map_congr_left
   intro p _
   by_cases e : p.1 = n
   · simp [e]
   · have : ¬ (Sum.inl p.1 : Key) = Sum.inl n := fun z => e (Sum.inl.inj z)
     simp [e]
 · rw [if_neg h, if_neg h]
   unfold mapK
   rw [List.map_append]
   rfl
theorem Xk (f : Int → α → V) (t : Dct α) (n : Int) : YF (mapK f t) (Sum.inl n) = mapK f (drop t n) := by
 unfold YF drop mapK
 rw [List.filter_map]
 congr 1
 apply List.filter_congr
 intro p _
 by_cases e : p.1 = n <;> simp [e]
theorem YG (f : Int → α → V) (t : Dct α) : (mapK f t).length = t.length := List.length_map ..
end
def numV (ns : List Int) : List (Key × V) := ns.map fun n => (Sum.inl n, V.bl true)
theorem numV_any (ns : List Int) (n : Int) : ((numV ns).any fun kv => decide (kv.1 = Sum.inl n)) = decide (n ∈ ns) := by
 induction ns with
 | nil => simp [numV]
 | cons a r ih =>
   show (decide ((Sum.inl a : Key) = Sum.inl n) || (numV r).any _) = _
   rw [ih]
   by_cases e : a = n
   · simp [e]
   · have e2 : ¬ n = a := fun z => e z.symm
     simp [e, e2]
theorem putK_numV (ns : List Int) (n : Int) : putK (numV ns) (Sum.inl n) (V.bl true) = numV (putN ns n) := by
 unfold putK putN
 rw [numV_any]
 by_cases h : n ∈ ns
 · rw [if_pos (by simpa using h), if_pos h]
   unfold numV
   rw [List.map_map]
   apply List.map_congr_left
   intro a _
   by_cases e : a = n <;> simp [e]
 · rw [if_neg (by simpa using h), if_neg h]
   unfold numV
   rw [List.map_append]
   rfl
theorem dropK_numV (ns : List Int) (n : Int) : YF (numV ns) (Sum.inl n) = numV (ZR ns n) := by
 unfold YF ZR numV
 rw [List.filter_map]
 congr 1
 apply List.filter_congr
 intro a _
 by_cases e : a = n <;> simp [e]
theorem valV_numV {ns : List Int} {n : Int} (h : n ∈ ns) : (valV (numV ns) (Sum.inl n)).isSome = true := by
 rw [← Sj, numV_any]
 simpa using h
structure Cl where
 Row : Addr
 Rack : Addr
 Wheels : Addr
 Book : Addr
structure BkS where
 slots : Int
 spans : List Int
 rows : List RowS
 now : Int
 next : Int
 names : Dct Str
 steps : Dct (Option Int)
 ticks : Dct Int
 kept : Dct Int
inductive Lb where
 | book | rack | wheels | spans | rows | names | steps | ticks | kept
 | row (i : Nat) | filled (i : Nat) | rising (i : Nat)
 | slot (i : Nat) (s : Int)
deriving DecidableEq
def Vc : Option Int → V
 | none => .non
 | some k => .int k
def rowF (sp : Int) (df lr : Addr) : List (Str × V) := [("span", .int sp), ("filled", .ref df), ("rising", .ref lr)]
def Sw (wh rl : Addr) : List (Str × V) := [("wheels", .ref wh), ("rows", .ref rl)]
def Xg (s : Int) (tp : Addr) : List (Str × V) := [("slots", .int s), ("spans", .ref tp)]
def SX (rk : Addr) (now next : Int) (nm st tk kp : Addr) : List (Str × V) := [("rack", .ref rk), ("now", .int now), ("next_number", .int next), ("names", .ref nm), ("steps", .ref st), ("ticks", .ref tk), ("kept_ticks", .ref kp)]
structure Adr where
 ad : Lb → Addr
 dx : Lb → Addr
abbrev Sl := Nat → Int → Addr
def loc (A : Adr) (sl : Sl) : Lb → Addr
 | .slot i s => sl i s
 | l => A.ad l
def Yp (sl : Sl) (i : Nat) (t : Dct (List Int)) : List (Key × V) := mapK (fun s _ => V.ref (sl i s)) t
def cont (c : Cl) (A : Adr) (sl : Sl) (B : BkS) : Lb → Option HO
 | .book => some (.ins c.Book (A.dx .book) (SX (A.ad .rack) B.now B.next (A.ad .names) (A.ad .steps) (A.ad .ticks) (A.ad .kept)))
 | .rack => some (.ins c.Rack (A.dx .rack) (Sw (A.ad .wheels) (A.ad .rows)))
 | .wheels => some (.ins c.Wheels (A.dx .wheels) (Xg B.slots (A.ad .spans)))
 | .spans => some (.tup (B.spans.map V.int))
 | .rows => some (.lst ((List.range B.rows.length).map fun i => V.ref (A.ad (.row i))))
 | .names => some (.dK (mapK (fun _ x => V.str x) B.names))
 | .steps => some (.dK (mapK (fun _ x => Vc x) B.steps))
 | .ticks => some (.dK (mapK (fun _ x => V.int x) B.ticks))
 | .kept => some (.dK (mapK (fun _ x => V.int x) B.kept))
 | .row i => B.rows[i]?.map fun r => .ins c.Row (A.dx (.row i)) (rowF r.span (A.ad (.filled i)) (A.ad (.rising i)))
 | .filled i => B.rows[i]?.map fun r => .dK (Yp sl i r.filled)
 | .rising i => B.rows[i]?.map fun r => .lst (r.rising.map V.int)
 | .slot i s => B.rows[i]?.bind fun r => (get r.filled s).map fun ns => .dK (numV ns)
structure Bk (c : Cl) (A : Adr) (sl : Sl) (H0 H : Hp) (B : BkS) : Prop where
 same : Same H0 H
 free : ∀ l o, cont c A sl B l = some o → H0 (loc A sl l) = none
 here : ∀ l o, cont c A sl B l = some o → H (loc A sl l) = some o
 inj : ∀ l l' o o', cont c A sl B l = some o → cont c A sl B l' = some o' → loc A sl l = loc A sl l' → l = l'
section
variable {c : Cl} {A : Adr} {sl : Sl} {H0 H : Hp} {B : BkS}
theorem Bk.set (b : Bk c A sl H0 H B) {l : Lb} {o o' : HO} {B' : BkS} (hl : cont c A sl B l = some o) (e : cont c A sl B' l = some o') (e' : ∀ l', l' ≠ l → ∀ u, cont c A sl B' l' = some u → cont c A sl B l' = some u) :
   Bk c A sl H0 (upd H (loc A sl l) o') B' := by
 have back : ∀ l' u, cont c A sl B' l' = some u → ∃ v, cont c A sl B l' = some v := fun l' u h => by
   by_cases z : l' = l
   · exact ⟨o, z ▸ hl⟩
   · exact ⟨u, e' l' z u h⟩
 refine ⟨fun x u h => ?_, fun l' u h => ?_, fun l' u h => ?_, fun l1 l2 o1 o2 h1 h2 z => ?_⟩
 · have hn := b.free l o hl
   rw [Zc (fun z => by rw [z, hn] at h; cases h)]
   exact b.same x u h
 · obtain ⟨v, hv⟩ := back l' u h
   exact b.free l' v hv
 · by_cases z : l' = l
   · subst z
     rw [e] at h
     cases h
     exact Zb
   · have hv := e' l' z u h
     rw [Zc (fun q => z (b.inj l' l u o hv hl q))]
     exact b.here l' u hv
 · obtain ⟨v1, hv1⟩ := back l1 o1 h1
   obtain ⟨v2, hv2⟩ := back l2 o2 h2
   exact b.inj l1 l2 v1 v2 hv1 hv2 z
theorem Bk.ne (b : Bk c A sl H0 H B) {l : Lb} {o : HO} (hl : cont c A sl B l = some o) {x : Addr} (hx : H x = none ∨ ∃ u, H0 x = some u) : loc A sl l ≠ x := fun z => by
 rcases hx with hx | ⟨u, hx⟩
 · have := b.here l o hl
   rw [z, hx] at this
   cases this
 · have := b.free l o hl
   rw [z, hx] at this
   cases this
theorem Bk.out (b : Bk c A sl H0 H B) {x : Addr} {o : HO} (hx : H x = none ∨ ∃ u, H0 x = some u) : Bk c A sl (upd H0 x o) (upd H x o) B where
 same := fun y u h => by
   by_cases z : y = x
   · subst z
     rw [Zb] at h
     rw [Zb]
     exact h
   · rw [Zc z] at h
     rw [Zc z]
     exact b.same y u h
 free := fun l u h => by rw [Zc (b.ne h hx)]; exact b.free l u h
 here := fun l u h => by rw [Zc (b.ne h hx)]; exact b.here l u h
 inj := b.inj
theorem Bk.weak {H1 : Hp} (b : Bk c A sl H0 H B) (h : Same H1 H0) : Bk c A sl H1 H B where
 same := h.trans b.same
 free := fun l u q => h.free (b.free l u q)
 here := b.here
 inj := b.inj
theorem Same.upd {H : Hp} {x : Addr} {o : HO} (h : H x = none) : Same H (L2.upd H x o) := fun y u q => by
 rw [Zc (Zn q h)]
 exact q
theorem Bk.temp (b : Bk c A sl H0 H B) {x : Addr} {o : HO} (hx : H x = none) : Bk c A sl H0 (upd H x o) B := (b.out (.inl hx)).weak (Same.upd (b.same.free hx))
def XF (sl : Sl) (i : Nat) (s : Int) (d : Addr) : Sl := fun i' s' => if i' = i ∧ s' = s then d else sl i' s'
theorem Su {sl : Sl} {i : Nat} {s : Int} {d : Addr} : XF sl i s d i s = d := by simp [XF]
def ZS (B : BkS) (i : Nat) (r : RowS) : BkS := { B with rows := B.rows.set i r }
theorem Yy {i j : Nat} {r r' : RowS} (h : B.rows[i]? = some r) : (ZS B i r').rows[j]? = if j = i then some r' else B.rows[j]? := by
 show (B.rows.set i r')[j]? = _
 have hl : i < B.rows.length := (List.getElem?_eq_some_iff.mp h).1
 rw [List.getElem?_set]
 by_cases e : i = j
 · subst e
   simp [hl]
 · have e2 : ¬ j = i := fun z => e z.symm
   simp [e, e2]
theorem TR {i j : Nat} {s : Int} {d : Addr} {t : Dct (List Int)} (h : j = i → get t s = none) : Yp (XF sl i s d) j t = Yp sl j t := by
 unfold Yp mapK
 apply List.map_congr_left
 intro p hp
 have : ¬ (j = i ∧ p.1 = s) := fun ⟨z1, z2⟩ => by
   have q := h z1
   rw [get_none] at q
   exact q (z2 ▸ List.mem_map.mpr ⟨p, hp, rfl⟩)
 simp [XF, this]
theorem Bk.newSlot (b : Bk c A sl H0 H B) {i : Nat} {r : RowS} {s : Int} {d : Addr} (hr : B.rows[i]? = some r) (hs : get r.filled s = none) (hd : H d = none) :
   Bk c A (XF sl i s d) H0 (upd (upd H d (.dK [])) (A.ad (.filled i)) (.dK (putK (Yp sl i r.filled) (Sum.inl s) (.ref d)))) (ZS B i { r with filled := put r.filled s [] }) := by
 have hlen : (B.rows.set i { r with filled := put r.filled s [] }).length = B.rows.length := List.length_set ..
 have eF : putK (Yp sl i r.filled) (Sum.inl s) (.ref d) = Yp (XF sl i s d) i (put r.filled s []) := by
   have : Yp sl i r.filled = Yp (XF sl i s d) i r.filled := (TR (fun _ => hs)).symm
   rw [this]
   unfold Yp
   rw [← XQ, Su]
 have hF : cont c A sl B (.filled i) = some (.dK (Yp sl i r.filled)) := by show B.rows[i]?.map _ = _; rw [hr]; rfl
 have nd : ∀ l o, cont c A sl B l = some o → loc A sl l ≠ d := fun l o h => b.ne h (.inl hd)
 have old : ∀ l o, l ≠ .filled i → l ≠ .slot i s → cont c A (XF sl i s d) (ZS B i { r with filled := put r.filled s [] }) l = some o → cont c A sl B l = some o ∧ loc A (XF sl i s d) l = loc A sl l := by
   intro l o h1 h2 h
   cases l with
   | row j =>
     refine ⟨?_, rfl⟩
     have h' : ((ZS B i { r with filled := put r.filled s [] }).rows[j]?).map _ = some o := h
     rw [Yy hr] at h'
     by_cases e : j = i
     · subst e
       rw [if_pos rfl] at h'
       show B.rows[j]?.map _ = _
       rw [hr]
       exact h'
     · rw [if_neg e] at h'
       exact h'
   | filled j =>
     have e : ¬ j = i := fun z => h1 (by rw [z])
     refine ⟨?_, rfl⟩
     have h' : ((ZS B i { r with filled := put r.filled s [] }).rows[j]?).map (fun r => HO.dK (Yp (XF sl i s d) j r.filled)) = some o := h
     rw [Yy hr, if_neg e] at h'
     show B.rows[j]?.map _ = _
     rw [← h']
     congr 1
     funext r'
     rw [TR (fun z => (e z).elim)]
   | rising j =>
     refine ⟨?_, rfl⟩
     have h' : ((ZS B i { r with filled := put r.filled s [] }).rows[j]?).map (fun r => HO.lst (r.rising.map V.int)) = some o := h
     rw [Yy hr] at h'
     by_cases e : j = i
     · subst e
       rw [if_pos rfl] at h'
       show B.rows[j]?.map _ = _
       rw [hr]
       exact h'
     · rw [if_neg e] at h'
       exact h'
   | slot j x =>
     have e : ¬ (j = i ∧ x = s) := fun z => h2 (by rw [z.1, z.2])
     refine ⟨?_, by show XF sl i s d j x = sl j x; simp [XF, e]⟩
     have h' : ((ZS B i { r with filled := put r.filled s [] }).rows[j]?).bind (fun r => (get r.filled x).map fun ns => HO.dK (numV ns)) = some o := h
     rw [Yy hr] at h'
     by_cases ej : j = i
     · subst ej
       rw [if_pos rfl] at h'
       have ex : ¬ x = s := fun z => e ⟨rfl, z⟩
       have h'' : (get (put r.filled s []) x).map (fun ns => HO.dK (numV ns)) = some o := h'
       rw [ZB, if_neg ex] at h''
       show B.rows[j]?.bind _ = _
       rw [hr]
       exact h''
     · rw [if_neg ej] at h'
       exact h'
   | rows =>
     refine ⟨?_, rfl⟩
     have h' : some (HO.lst ((List.range (B.rows.set i { r with filled := put r.filled s [] }).length).map fun i => V.ref (A.ad (.row i)))) = some o := h
     rw [hlen] at h'
     exact h'
   | book => exact ⟨h, rfl⟩
   | rack => exact ⟨h, rfl⟩
   | wheels => exact ⟨h, rfl⟩
   | spans => exact ⟨h, rfl⟩
   | names => exact ⟨h, rfl⟩
   | steps => exact ⟨h, rfl⟩
   | ticks => exact ⟨h, rfl⟩
   | kept => exact ⟨h, rfl⟩
 have nF : A.ad (.filled i) ≠ d := nd _ _ hF
 have lS : loc A (XF sl i s d) (.slot i s) = d := Su
 have lF : loc A (XF sl i s d) (.filled i) = loc A sl (.filled i) := rfl
 have all : ∀ l o, cont c A (XF sl i s d) (ZS B i { r with filled := put r.filled s [] }) l = some o → l = .slot i s ∨ ∃ o', cont c A sl B l = some o' ∧ loc A (XF sl i s d) l = loc A sl l := fun l o h => by
   by_cases h1 : l = .slot i s
   · exact .inl h1
   · by_cases h2 : l = .filled i
     · subst h2
       exact .inr ⟨_, hF, rfl⟩
     · exact .inr ⟨o, old l o h2 h1 h⟩
 refine ⟨fun x u h => ?_, fun l o h => ?_, fun l o h => ?_, fun l1 l2 o1 o2 h1 h2 z => ?_⟩
 · have q := b.same x u h
   have n1 : x ≠ A.ad (.filled i) := fun z => by
     have := b.free _ _ hF
     rw [show loc A sl (.filled i) = A.ad (.filled i) from rfl, ← z, h] at this
     cases this
   rw [Zc n1, Zc (Zn q hd)]
   exact q
 · rcases all l o h with rfl | ⟨o', ho, e⟩
   · rw [lS]
     exact b.same.free hd
   · rw [e]
     exact b.free l o' ho
 · by_cases h1 : l = .slot i s
   · subst h1
     rw [lS, Zc (Ne.symm nF), Zb]
     have h' : ((ZS B i { r with filled := put r.filled s [] }).rows[i]?).bind (fun r => (get r.filled s).map fun ns => HO.dK (numV ns)) = some o := h
     rw [Yy hr, if_pos rfl] at h'
     have h'' : (get (put r.filled s []) s).map (fun ns => HO.dK (numV ns)) = some o := h'
     rw [ZB, if_pos rfl] at h''
     exact h''
   · by_cases h2 : l = .filled i
     · subst h2
       have h' : ((ZS B i { r with filled := put r.filled s [] }).rows[i]?).map (fun r => HO.dK (Yp (XF sl i s d) i r.filled)) = some o := h
       rw [Yy hr, if_pos rfl] at h'
       show upd _ (A.ad (.filled i)) _ (A.ad (.filled i)) = some o
       rw [Zb, eF]
       exact h'
     · obtain ⟨ho, e⟩ := old l o h2 h1 h
       rw [e, Zc (show loc A sl l ≠ A.ad (.filled i) from fun z => h2 (b.inj l (.filled i) o _ ho hF z)), Zc (nd l o ho)]
       exact b.here l o ho
 · rcases all l1 o1 h1 with rfl | ⟨p1, q1, e1⟩
   · rcases all l2 o2 h2 with rfl | ⟨p2, q2, e2⟩
     · rfl
     · rw [lS, e2] at z
       exact (nd l2 p2 q2 z.symm).elim
   · rcases all l2 o2 h2 with rfl | ⟨p2, q2, e2⟩
     · rw [lS, e1] at z
       exact (nd l1 p1 q1 z).elim
     · rw [e1, e2] at z
       exact b.inj l1 l2 p1 p2 q1 q2 z
theorem Bk.wNow (b : Bk c A sl H0 H B) (x : Int) : Bk c A sl H0 (upd H (A.ad .book) (.ins c.Book (A.dx .book) (SX (A.ad .rack) x B.next (A.ad .names) (A.ad .steps) (A.ad .ticks) (A.ad .kept)))) { B with now := x } :=
 b.set (l := .book) rfl rfl fun l' hl u h => by cases l' <;> first | exact h | exact absurd rfl hl
theorem Bk.wNext (b : Bk c A sl H0 H B) (x : Int) : Bk c A sl H0 (upd H (A.ad .book) (.ins c.Book (A.dx .book) (SX (A.ad .rack) B.now x (A.ad .names) (A.ad .steps) (A.ad .ticks) (A.ad .kept)))) { B with next := x } :=
 b.set (l := .book) rfl rfl fun l' hl u h => by cases l' <;> first | exact h | exact absurd rfl hl
theorem Bk.wNames (b : Bk c A sl H0 H B) (x : Dct Str) : Bk c A sl H0 (upd H (A.ad .names) (.dK (mapK (fun _ x => V.str x) x))) { B with names := x } :=
 b.set (l := .names) rfl rfl fun l' hl u h => by cases l' <;> first | exact h | exact absurd rfl hl
theorem Bk.wSteps (b : Bk c A sl H0 H B) (x : Dct (Option Int)) : Bk c A sl H0 (upd H (A.ad .steps) (.dK (mapK (fun _ x => Vc x) x))) { B with steps := x } :=
 b.set (l := .steps) rfl rfl fun l' hl u h => by cases l' <;> first | exact h | exact absurd rfl hl
theorem Bk.wTicks (b : Bk c A sl H0 H B) (x : Dct Int) : Bk c A sl H0 (upd H (A.ad .ticks) (.dK (mapK (fun _ x => V.int x) x))) { B with ticks := x } :=
 b.set (l := .ticks) rfl rfl fun l' hl u h => by cases l' <;> first | exact h | exact absurd rfl hl
theorem Bk.wKept (b : Bk c A sl H0 H B) (x : Dct Int) : Bk c A sl H0 (upd H (A.ad .kept) (.dK (mapK (fun _ x => V.int x) x))) { B with kept := x } :=
 b.set (l := .kept) rfl rfl fun l' hl u h => by cases l' <;> first | exact h | exact absurd rfl hl
theorem Uw {i : Nat} {r r' : RowS} {l : Lb} {u : HO} (hr : B.rows[i]? = some r) (h : cont c A sl (ZS B i r') l = some u)
   (h1 : l = .row i → r'.span = r.span) (h2 : l = .filled i → Yp sl i r'.filled = Yp sl i r.filled) (h3 : l = .rising i → r'.rising = r.rising) (h4 : ∀ s ns, l = .slot i s → get r'.filled s = some ns → get r.filled s = some ns) : cont c A sl B l = some u := by
 cases l with
 | row j =>
   have h' : ((ZS B i r').rows[j]?).map _ = some u := h
   rw [Yy hr] at h'
   by_cases e : j = i
   · subst e
     rw [if_pos rfl] at h'
     show B.rows[j]?.map _ = _
     rw [hr, ← h']
     show some (HO.ins c.Row (A.dx (.row j)) (rowF r.span (A.ad (.filled j)) (A.ad (.rising j)))) = some (HO.ins c.Row (A.dx (.row j)) (rowF r'.span (A.ad (.filled j)) (A.ad (.rising j))))
     rw [h1 rfl]
   · rw [if_neg e] at h'
     exact h'
 | filled j =>
   have h' : ((ZS B i r').rows[j]?).map (fun r => HO.dK (Yp sl j r.filled)) = some u := h
   rw [Yy hr] at h'
   by_cases e : j = i
   · subst e
     rw [if_pos rfl] at h'
     show B.rows[j]?.map (fun r => HO.dK (Yp sl j r.filled)) = _
     rw [hr, ← h']
     show some (HO.dK (Yp sl j r.filled)) = some (HO.dK (Yp sl j r'.filled))
     rw [h2 rfl]
   · rw [if_neg e] at h'
     exact h'
 | rising j =>
   have h' : ((ZS B i r').rows[j]?).map (fun r => HO.lst (r.rising.map V.int)) = some u := h
   rw [Yy hr] at h'
   by_cases e : j = i
   · subst e
     rw [if_pos rfl] at h'
     show B.rows[j]?.map (fun r => HO.lst (r.rising.map V.int)) = _
     rw [hr, ← h']
     show some (HO.lst (r.rising.map V.int)) = some (HO.lst (r'.rising.map V.int))
     rw [h3 rfl]
   · rw [if_neg e] at h'
     exact h'
 | slot j x =>
   have h' : ((ZS B i r').rows[j]?).bind (fun r => (get r.filled x).map fun ns => HO.dK (numV ns)) = some u := h
   rw [Yy hr] at h'
   by_cases e : j = i
   · subst e
     rw [if_pos rfl] at h'
     have h'' : (get r'.filled x).map (fun ns => HO.dK (numV ns)) = some u := h'
     cases q : get r'.filled x with
     | none => rw [q] at h''; cases h''
     | some ns =>
       show B.rows[j]?.bind _ = _
       rw [hr]
       show (get r.filled x).map (fun ns => HO.dK (numV ns)) = some u
       rw [h4 x ns rfl q, ← h'', q]
   · rw [if_neg e] at h'
     exact h'
 | rows =>
   have h' : some (HO.lst ((List.range (B.rows.set i r').length).map fun i => V.ref (A.ad (.row i)))) = some u := h
   rw [List.length_set] at h'
   exact h'
 | book => exact h
 | rack => exact h
 | wheels => exact h
 | spans => exact h
 | names => exact h
 | steps => exact h
 | ticks => exact h
 | kept => exact h
theorem cont_row {i : Nat} {r : RowS} (hr : B.rows[i]? = some r) : cont c A sl B (.row i) = some (.ins c.Row (A.dx (.row i)) (rowF r.span (A.ad (.filled i)) (A.ad (.rising i)))) := by show B.rows[i]?.map _ = _; rw [hr]; rfl
theorem Vz {i : Nat} {r : RowS} (hr : B.rows[i]? = some r) : cont c A sl B (.filled i) = some (.dK (Yp sl i r.filled)) := by show B.rows[i]?.map _ = _; rw [hr]; rfl
theorem Ux {i : Nat} {r : RowS} (hr : B.rows[i]? = some r) : cont c A sl B (.rising i) = some (.lst (r.rising.map V.int)) := by show B.rows[i]?.map _ = _; rw [hr]; rfl
theorem UI {i : Nat} {r : RowS} {s : Int} {ns : List Int} (hr : B.rows[i]? = some r) (hs : get r.filled s = some ns) : cont c A sl B (.slot i s) = some (.dK (numV ns)) := by
 show B.rows[i]?.bind _ = _
 rw [hr]
 show (get r.filled s).map _ = _
 rw [hs]
 rfl
theorem Vm {i : Nat} {r r' : RowS} (hr : B.rows[i]? = some r) : (ZS B i r').rows[i]? = some r' := by rw [Yy hr, if_pos rfl]
theorem Bk.wRising (b : Bk c A sl H0 H B) {i : Nat} {r : RowS} (hr : B.rows[i]? = some r) (l : List Int) : Bk c A sl H0 (upd H (A.ad (.rising i)) (.lst (l.map V.int))) (ZS B i { r with rising := l }) :=
 b.set (l := .rising i) (Ux hr) (Ux (Vm hr)) fun l' hl u h => Uw hr h (fun _ => rfl) (fun _ => rfl) (fun z => (hl z).elim) fun _ _ _ q => q
theorem fillV_put {i : Nat} {t : Dct (List Int)} {s : Int} {ns : List Int} (h : (get t s).isSome = true) : Yp sl i (put t s ns) = Yp sl i t := by
 unfold put
 rw [Si, if_pos h]
 unfold Yp mapK
 rw [List.map_map]
 apply List.map_congr_left
 intro p _
 by_cases e : p.1 = s <;> simp [e]
theorem Bk.wSlot (b : Bk c A sl H0 H B) {i : Nat} {r : RowS} {s : Int} {ns : List Int} (hr : B.rows[i]? = some r) (hs : get r.filled s = some ns) (ns' : List Int) : Bk c A sl H0 (upd H (sl i s) (.dK (numV ns'))) (ZS B i (Xh r s ns')) :=
 b.set (l := .slot i s) (UI hr hs) (UI (Vm hr) (by show get (put r.filled s ns') s = _; rw [ZB, if_pos rfl])) fun l' hl u h =>
   Uw hr h (fun _ => rfl) (fun _ => fillV_put (by rw [hs]; rfl)) (fun _ => rfl) fun x ms z q => by
     have q' : get (put r.filled s ns') x = some ms := q
     rw [ZB, if_neg (fun e => hl (by rw [z, e]))] at q'
     exact q'
theorem Bk.dropSlot (b : Bk c A sl H0 H B) {i : Nat} {r : RowS} (hr : B.rows[i]? = some r) (s : Int) : Bk c A sl H0 (upd H (A.ad (.filled i)) (.dK (YF (Yp sl i r.filled) (Sum.inl s)))) (ZS B i { r with filled := drop r.filled s }) := by
 have e : YF (Yp sl i r.filled) (Sum.inl s) = Yp sl i (drop r.filled s) := Xk _ _ _
 rw [e]
 refine b.set (l := .filled i) (Vz hr) (Vz (Vm hr)) fun l' hl u h => Uw hr h (fun _ => rfl) (fun z => (hl z).elim) (fun _ => rfl) fun x ms _ q => ?_
 have q' : get (drop r.filled s) x = some ms := q
 rw [Zx] at q'
 by_cases z : x = s
 · rw [if_pos z] at q'; cases q'
 · rw [if_neg z] at q'; exact q'
theorem XT {i : Nat} {r r' : RowS} : ZS (ZS B i r) i r' = ZS B i r' := by
 unfold ZS
 congr 1
 exact List.set_set ..
theorem Bk.book (b : Bk c A sl H0 H B) : H (A.ad .book) = some (.ins c.Book (A.dx .book) (SX (A.ad .rack) B.now B.next (A.ad .names) (A.ad .steps) (A.ad .ticks) (A.ad .kept))) := b.here .book _ rfl
theorem Bk.rack (b : Bk c A sl H0 H B) : H (A.ad .rack) = some (.ins c.Rack (A.dx .rack) (Sw (A.ad .wheels) (A.ad .rows))) := b.here .rack _ rfl
theorem Bk.wheels (b : Bk c A sl H0 H B) : H (A.ad .wheels) = some (.ins c.Wheels (A.dx .wheels) (Xg B.slots (A.ad .spans))) := b.here .wheels _ rfl
theorem Bk.spans (b : Bk c A sl H0 H B) : H (A.ad .spans) = some (.tup (B.spans.map V.int)) := b.here .spans _ rfl
theorem Bk.rows (b : Bk c A sl H0 H B) : H (A.ad .rows) = some (.lst ((List.range B.rows.length).map fun i => V.ref (A.ad (.row i)))) := b.here .rows _ rfl
theorem Bk.names (b : Bk c A sl H0 H B) : H (A.ad .names) = some (.dK (mapK (fun _ x => V.str x) B.names)) := b.here .names _ rfl
theorem Bk.steps (b : Bk c A sl H0 H B) : H (A.ad .steps) = some (.dK (mapK (fun _ x => Vc x) B.steps)) := b.here .steps _ rfl
theorem Bk.ticks (b : Bk c A sl H0 H B) : H (A.ad .ticks) = some (.dK (mapK (fun _ x => V.int x) B.ticks)) := b.here .ticks _ rfl
theorem Bk.kept (b : Bk c A sl H0 H B) : H (A.ad .kept) = some (.dK (mapK (fun _ x => V.int x) B.kept)) := b.here .kept _ rfl
theorem Bk.row (b : Bk c A sl H0 H B) {i : Nat} {r : RowS} (hr : B.rows[i]? = some r) : H (A.ad (.row i)) = some (.ins c.Row (A.dx (.row i)) (rowF r.span (A.ad (.filled i)) (A.ad (.rising i)))) := b.here (.row i) _ (cont_row hr)
theorem Bk.filled (b : Bk c A sl H0 H B) {i : Nat} {r : RowS} (hr : B.rows[i]? = some r) : H (A.ad (.filled i)) = some (.dK (Yp sl i r.filled)) := b.here (.filled i) _ (Vz hr)
theorem Bk.rising (b : Bk c A sl H0 H B) {i : Nat} {r : RowS} (hr : B.rows[i]? = some r) : H (A.ad (.rising i)) = some (.lst (r.rising.map V.int)) := b.here (.rising i) _ (Ux hr)
theorem Bk.slot (b : Bk c A sl H0 H B) {i : Nat} {r : RowS} {s : Int} {ns : List Int} (hr : B.rows[i]? = some r) (hs : get r.filled s = some ns) : H (sl i s) = some (.dK (numV ns)) := b.here (.slot i s) _ (UI hr hs)
end
section
variable {c : Cl} {A : Adr} {sl : Sl} {H0 H : Hp} {B : BkS}
theorem UH {i : Nat} {t : Dct (List Int)} {s : Int} : valV (Yp sl i t) (Sum.inl s) = (get t s).map fun _ => V.ref (sl i s) := ZW _ _ _
theorem Bk.getF (b : Bk c A sl H0 H B) {i : Nat} {r : RowS} {s : Int} {ns : List Int} (hr : B.rows[i]? = some r) (hs : get r.filled s = some ns) : DGet H (A.ad (.filled i)) (.int s) (some (.ref (sl i s))) := by
 have := DGet.k (k := Sum.inl s) (b.filled hr)
 rw [UH, hs] at this
 exact this
theorem Bk.putS (b : Bk c A sl H0 H B) {i : Nat} {r : RowS} {s n : Int} {ns : List Int} (hr : B.rows[i]? = some r) (hs : get r.filled s = some ns) (hl : ns.length < sizeLine) : DPut H (sl i s) (.int n) (.bl true) (upd H (sl i s) (.dK (numV (putN ns n)))) := by
 have := DPut.k (k := Sum.inl n) (v := .bl true) (b.slot hr hs) (by unfold numV; rw [List.length_map]; exact hl)
 rw [putK_numV] at this
 exact this
end
end Tb
end
section
namespace Tb
open PySem L2 Mir Rk
def ZZ (nm : Option Str) (sp : Option (Option Int)) (t : Option Int) : Option (Al Str) := t.bind fun t => nm.bind fun x => sp.map fun s => ⟨x, t, s⟩
def wait (B : BkS) : Fn Str := fun k => ZZ (get B.names k) (get B.steps k) (get B.ticks k)
def rest (B : BkS) : Fn Str := fun k => ZZ (get B.names k) (get B.steps k) (get B.kept k)
structure Out (B : BkS) : Prop where
 ndT : (keys B.ticks).Nodup
 ndK : (keys B.kept).Nodup
 ndN : (keys B.names).Nodup
 ndS : (keys B.steps).Nodup
 nx : 0 ≤ B.next ∧ B.next ≤ 63
 dom : ∀ k, (get B.names k).isSome = true → 0 ≤ k ∧ k < B.next
 nm : ∀ k, (get B.names k).isSome = ((get B.ticks k).isSome || (get B.kept k).isSome)
 st : ∀ k, (get B.steps k).isSome = (get B.names k).isSome
 pos : ∀ k s, get B.steps k = some (some s) → 1 ≤ s
 dis : ∀ k, (get B.ticks k).isSome = true → get B.kept k = none
 kp : ∀ k t, get B.kept k = some t → 0 < t
theorem VT {α : Type} {t : Dct α} (nd : (keys t).Nodup) {N : Nat} (h : ∀ k, (get t k).isSome = true → 0 ≤ k ∧ k < N) : t.length ≤ N := by
 have q := nd.length_le_of_subset (l₂ := (List.range N).map (fun (i : Nat) => (i : Int))) fun k hk => by
   have hs : (get t k).isSome = true := by
     cases e : get t k with
     | none => exact (get_none.mp e hk).elim
     | some v => rfl
   obtain ⟨a, b⟩ := h k hs
   exact List.mem_map.mpr ⟨k.toNat, List.mem_range.mpr (by omega), by omega⟩
 simpa [keys] using q
section
variable {B : BkS}
theorem Out.namesT (o : Out B) {k : Int} (h : (get B.ticks k).isSome = true) : (get B.names k).isSome = true := by rw [o.nm, h]; rfl
theorem Out.namesK (o : Out B) {k : Int} (h : (get B.kept k).isSome = true) : (get B.names k).isSome = true := by rw [o.nm, h]; simp
theorem Out.domT (o : Out B) {k t : Int} (h : get B.ticks k = some t) : 0 ≤ k ∧ k < B.next := o.dom k (o.namesT (by rw [h]; rfl))
theorem Out.lens (o : Out B) : B.ticks.length ≤ 63 ∧ B.kept.length ≤ 63 ∧ B.names.length ≤ 63 ∧ B.steps.length ≤ 63 := by
 have n := o.nx
 refine ⟨VT o.ndT fun k h => ?_, VT o.ndK fun k h => ?_, VT o.ndN fun k h => ?_, VT o.ndS fun k h => ?_⟩
 · have := o.dom k (o.namesT h); omega
 · have := o.dom k (o.namesK h); omega
 · have := o.dom k h; omega
 · have := o.dom k (by rw [← o.st]; exact h); omega
theorem Out.at (o : Out B) {k : Int} (h : (get B.names k).isSome = true) : ∃ nm sp, get B.names k = some nm ∧ get B.steps k = some sp := by
 obtain ⟨nm, e1⟩ := Option.isSome_iff_exists.mp h
 obtain ⟨sp, e2⟩ := Option.isSome_iff_exists.mp (by rw [o.st]; exact h : (get B.steps k).isSome = true)
 exact ⟨nm, sp, e1, e2⟩
theorem Out.waits (o : Out B) {k t : Int} (h : get B.ticks k = some t) : ∃ nm sp, get B.names k = some nm ∧ get B.steps k = some sp ∧ wait B k = some ⟨nm, t, sp⟩ := by
 obtain ⟨nm, sp, e1, e2⟩ := o.at (o.namesT (by rw [h]; rfl))
 exact ⟨nm, sp, e1, e2, by unfold wait; rw [h, e1, e2]; rfl⟩
theorem Out.rests (o : Out B) {k t : Int} (h : get B.kept k = some t) : ∃ nm sp, get B.names k = some nm ∧ get B.steps k = some sp ∧ rest B k = some ⟨nm, t, sp⟩ := by
 obtain ⟨nm, sp, e1, e2⟩ := o.at (o.namesK (by rw [h]; rfl))
 exact ⟨nm, sp, e1, e2, by unfold rest; rw [h, e1, e2]; rfl⟩
theorem alarm_some {nm : Option Str} {sp : Option (Option Int)} {t : Option Int} {a : Al Str} : ZZ nm sp t = some a ↔ nm = some a.name ∧ sp = some a.step ∧ t = some a.tick := by
 unfold ZZ
 cases t with
 | none => simp
 | some t =>
   cases nm with
   | none => simp
   | some x =>
     cases sp with
     | none => simp
     | some s =>
       obtain ⟨n', t', s'⟩ := a
       simp
       exact fun _ => And.comm
theorem Out.tick_of (o : Out B) (k : Int) : (wait B k).map (·.tick) = get B.ticks k := by
 cases e : get B.ticks k with
 | none => unfold wait; rw [e]; rfl
 | some t => obtain ⟨nm, sp, _, _, w⟩ := o.waits e; rw [w]; rfl
theorem Out.good (o : Out B) : GoodF 63 (wait B) := fun n a h => by
 obtain ⟨h1, h2, h3⟩ := alarm_some.mp h
 have := o.domT h3
 have n := o.nx
 exact ⟨by omega, fun k hk => by have := o.pos _ k (by rw [h2, hk]); omega⟩
def setB (B : BkS) (name : Str) (due : Int) (step : Option Int) : BkS := { B with next := B.next + 1, names := put B.names B.next name, steps := put B.steps B.next step, ticks := put B.ticks B.next due }
theorem Out.fresh (o : Out B) : get B.names B.next = none ∧ get B.steps B.next = none ∧ get B.ticks B.next = none ∧ get B.kept B.next = none := by
 have h : get B.names B.next = none := by
   cases e : get B.names B.next with
   | none => rfl
   | some v => have := o.dom B.next (by rw [e]; rfl); omega
 have h2 := o.st B.next
 have h3 := o.nm B.next
 rw [h] at h2 h3
 refine ⟨h, by simpa using h2, ?_, ?_⟩
 · cases e : get B.ticks B.next with
   | none => rfl
   | some v => rw [e] at h3; simp at h3
 · cases e : get B.kept B.next with
   | none => rfl
   | some v => rw [e] at h3; simp at h3
theorem Out.setB (o : Out B) (hn : B.next < 63) {name : Str} {due : Int} {step : Option Int} (hs : ∀ s, step = some s → 1 ≤ s) : Out (setB B name due step) where
 ndT := ZY o.ndT _ _
 ndK := o.ndK
 ndN := ZY o.ndN _ _
 ndS := ZY o.ndS _ _
 nx := by have := o.nx; exact ⟨by show 0 ≤ B.next + 1; omega, by show B.next + 1 ≤ 63; omega⟩
 dom := fun k h => by
   have h' : (get (put B.names B.next name) k).isSome = true := h
   show 0 ≤ k ∧ k < B.next + 1
   rw [ZB] at h'
   have := o.nx
   by_cases e : k = B.next
   · omega
   · rw [if_neg e] at h'
     have := o.dom k h'
     omega
 nm := fun k => by
   show (get (put B.names B.next name) k).isSome = ((get (put B.ticks B.next due) k).isSome || (get B.kept k).isSome)
   rw [ZB, ZB]
   by_cases e : k = B.next
   · simp [e]
   · rw [if_neg e, if_neg e]; exact o.nm k
 st := fun k => by
   show (get (put B.steps B.next step) k).isSome = (get (put B.names B.next name) k).isSome
   rw [ZB, ZB]
   by_cases e : k = B.next
   · simp [e]
   · rw [if_neg e, if_neg e]; exact o.st k
 pos := fun k s h => by
   have h' : get (put B.steps B.next step) k = some (some s) := h
   rw [ZB] at h'
   by_cases e : k = B.next
   · rw [if_pos e] at h'; exact hs s (Option.some.inj h')
   · rw [if_neg e] at h'; exact o.pos k s h'
 dis := fun k h => by
   have h' : (get (put B.ticks B.next due) k).isSome = true := h
   rw [ZB] at h'
   by_cases e : k = B.next
   · rw [e]; exact o.fresh.2.2.2
   · rw [if_neg e] at h'; exact o.dis k h'
 kp := o.kp
theorem Out.wait_setB (o : Out B) {name : Str} {due : Int} {step : Option Int} : wait (Tb.setB B name due step) = fput (wait B) B.next (some ⟨name, due, step⟩) := by
 funext k
 show ZZ (get (put B.names B.next name) k) (get (put B.steps B.next step) k) (get (put B.ticks B.next due) k) = _
 rw [ZB, ZB, ZB]
 unfold fput
 by_cases e : k = B.next
 · simp [e, ZZ]
 · simp only [if_neg e]
   rfl
theorem Out.rest_setB (o : Out B) {name : Str} {due : Int} {step : Option Int} : rest (Tb.setB B name due step) = rest B := by
 funext k
 show ZZ (get (put B.names B.next name) k) (get (put B.steps B.next step) k) (get B.kept k) = ZZ (get B.names k) (get B.steps k) (get B.kept k)
 rw [ZB, ZB]
 by_cases e : k = B.next
 · rw [e, o.fresh.2.2.2]
   rfl
 · rw [if_neg e, if_neg e]
def ringB (B : BkS) (k : Int) : Option Int → BkS
 | none => { B with ticks := drop B.ticks k, steps := drop B.steps k, names := drop B.names k }
 | some s => { B with ticks := put B.ticks k (B.now + s) }
theorem Out.ringB (o : Out B) {k t : Int} {sp : Option Int} (ht : get B.ticks k = some t) (hs : get B.steps k = some sp) : Out (ringB B k sp) := by
 have hk : get B.kept k = none := o.dis k (by rw [ht]; rfl)
 cases sp with
 | none =>
   refine ⟨ZN o.ndT _, o.ndK, ZN o.ndN _, ZN o.ndS _, o.nx, fun m h => ?_, fun m => ?_, fun m => ?_, fun m s h => ?_, fun m h => ?_, o.kp⟩
   · have h' : (get (drop B.names k) m).isSome = true := h
     rw [Zx] at h'
     by_cases e : m = k
     · rw [if_pos e] at h'; cases h'
     · rw [if_neg e] at h'; exact o.dom m h'
   · show (get (drop B.names k) m).isSome = ((get (drop B.ticks k) m).isSome || (get B.kept m).isSome)
     rw [Zx, Zx]
     by_cases e : m = k
     · rw [if_pos e, if_pos e, e, hk]; rfl
     · rw [if_neg e, if_neg e]; exact o.nm m
   · show (get (drop B.steps k) m).isSome = (get (drop B.names k) m).isSome
     rw [Zx, Zx]
     by_cases e : m = k
     · rw [if_pos e, if_pos e]; rfl
     · rw [if_neg e, if_neg e]; exact o.st m
   · have h' : get (drop B.steps k) m = some (some s) := h
     rw [Zx] at h'
     by_cases e : m = k
     · rw [if_pos e] at h'; cases h'
     · rw [if_neg e] at h'; exact o.pos m s h'
   · have h' : (get (drop B.ticks k) m).isSome = true := h
     rw [Zx] at h'
     by_cases e : m = k
     · rw [if_pos e] at h'; cases h'
     · rw [if_neg e] at h'; exact o.dis m h'
 | some s =>
   refine ⟨ZY o.ndT _ _, o.ndK, o.ndN, o.ndS, o.nx, o.dom, fun m => ?_, o.st, o.pos, fun m h => ?_, o.kp⟩
   · show (get B.names m).isSome = ((get (put B.ticks k (B.now + s)) m).isSome || (get B.kept m).isSome)
     rw [ZB]
     by_cases e : m = k
     · rw [if_pos e, e, o.namesT (by rw [ht]; rfl)]; rfl
     · rw [if_neg e]; exact o.nm m
   · have h' : (get (put B.ticks k (B.now + s)) m).isSome = true := h
     rw [ZB] at h'
     by_cases e : m = k
     · rw [e]; exact hk
     · rw [if_neg e] at h'; exact o.dis m h'
theorem Out.wait_ringB (o : Out B) {k : Int} {sp : Option Int} {nm : Str} (ht : get B.ticks k = some B.now) (hs : get B.steps k = some sp) (hn : get B.names k = some nm) : wait (Tb.ringB B k sp) = fput (wait B) k (after ⟨nm, B.now, sp⟩) := by
 funext m
 cases sp with
 | none =>
   show ZZ (get (drop B.names k) m) (get (drop B.steps k) m) (get (drop B.ticks k) m) = _
   rw [Zx, Zx, Zx]
   unfold fput
   by_cases e : m = k
   · simp [e, ZZ, after]
   · simp only [if_neg e]; rfl
 | some s =>
   show ZZ (get B.names m) (get B.steps m) (get (put B.ticks k (B.now + s)) m) = _
   rw [ZB]
   unfold fput
   by_cases e : m = k
   · subst e
     simp [ZZ, after, hs, hn]
   · simp only [if_neg e]; rfl
theorem Out.rest_ringB (o : Out B) {k t : Int} {sp : Option Int} (ht : get B.ticks k = some t) : rest (Tb.ringB B k sp) = rest B := by
 have hk : get B.kept k = none := o.dis k (by rw [ht]; rfl)
 cases sp with
 | none =>
   funext m
   show ZZ (get (drop B.names k) m) (get (drop B.steps k) m) (get B.kept m) = ZZ (get B.names m) (get B.steps m) (get B.kept m)
   rw [Zx, Zx]
   by_cases e : m = k
   · rw [e, hk]; rfl
   · rw [if_neg e, if_neg e]
 | some s => rfl
end
end Tb
end
section
namespace Tk
open PySem L2
def top (i : Nat) : Stmt := PySem.Challenge.pw_tickbook_k11_where.main.body.getD i (.Pass ⟨0, 0, 0, 0⟩)
abbrev YA : Stmt := top 11
abbrev YU : Stmt := top 12
abbrev Yd : Stmt := Yb (top 13) 0
abbrev YB : Stmt := Yb (top 13) 1
abbrev XG : Stmt := top 15
abbrev YC : Stmt := Yb (top 16) 0
abbrev Vh : Stmt := Yb (top 16) 1
abbrev XL : Stmt := Yb (top 16) 2
abbrev Yu : Stmt := Yb (top 16) 3
abbrev Ym : Stmt := Yb (top 16) 4
abbrev Yv : Stmt := Yb (top 17) 0
abbrev YN : Stmt := Yb (top 17) 1
abbrev XM : Stmt := Yb (top 17) 2
abbrev Xw : Stmt := Yb (top 17) 3
abbrev Yf : Stmt := Yb (top 17) 4
abbrev Yn : Stmt := Yb (top 17) 5
abbrev ZX : Stmt := Yb (top 17) 6
abbrev Ye : Stmt := Yb (top 17) 8
abbrev Yw : Stmt := Yb (top 19) 0
abbrev XV : Stmt := Yb (top 19) 1
abbrev XO : Stmt := Yb (top 19) 4
abbrev Xx : Stmt := Yb (top 19) 5
abbrev Xb : Stmt := Yb (top 19) 6
abbrev Xc : Stmt := Yb (top 19) 7
abbrev YW : Stmt := top 20
abbrev YX : Stmt := top 21
abbrev Yt : Stmt := top 22
abbrev Ys : Stmt := top 23
abbrev Yz : Stmt := top 24
abbrev VD : Stmt := top 25
abbrev Xm : Stmt := top 26
abbrev Xl : Stmt := top 27
abbrev Ty : Stmt := top 28
abbrev Tx : Stmt := top 29
abbrev UB : Stmt := top 30
abbrev Tw : Stmt := top 31
abbrev Vf : Stmt := top 32
abbrev YV : Stmt := top 33
abbrev Xu : Stmt := top 35
abbrev XJ : Stmt := top 36
abbrev XI : Stmt := top 38
abbrev XH : Stmt := top 39
abbrev Xq : Stmt := top 40
abbrev Xv : Stmt := top 41
abbrev Xn : Stmt := top 42
abbrev Vg : Stmt := top 43
abbrev Xo : Stmt := top 44
abbrev YM : Stmt := top 45
abbrev YZ : Stmt := top 46
abbrev Xt : Stmt := top 47
abbrev Xs : Stmt := top 48
abbrev Xa : Stmt := top 49
abbrev YY : Stmt := top 50
abbrev Xr : Stmt := top 51
abbrev Xp : Stmt := top 52
abbrev Rx : Stmt := top 53
structure Ad where
 f_check_wheels : Addr
 fd_check_wheels : FuncData
 f_slot_spans : Addr
 fd_slot_spans : FuncData
 f_Wheels___init__ : Addr
 fd_Wheels___init__ : FuncData
 f_Wheels_place : Addr
 fd_Wheels_place : FuncData
 f_position : Addr
 fd_position : FuncData
 f_Row___init__ : Addr
 fd_Row___init__ : FuncData
 f_Row_put : Addr
 fd_Row_put : FuncData
 f_Row_take : Addr
 fd_Row_take : FuncData
 f_Row_take_slot : Addr
 fd_Row_take_slot : FuncData
 f_Row_numbers_in : Addr
 fd_Row_numbers_in : FuncData
 f_Rack___init__ : Addr
 fd_Rack___init__ : FuncData
 f_Rack_row_of : Addr
 fd_Rack_row_of : FuncData
 f_Rack_put : Addr
 fd_Rack_put : FuncData
 f_Rack_take : Addr
 fd_Rack_take : FuncData
 f_Rack_numbers_at : Addr
 fd_Rack_numbers_at : FuncData
 f_Rack_first_row : Addr
 fd_Rack_first_row : FuncData
 f_Rack_first_start : Addr
 fd_Rack_first_start : FuncData
 f_Rack_take_first : Addr
 fd_Rack_take_first : FuncData
 f_Book___init__ : Addr
 fd_Book___init__ : FuncData
 f_Book_time : Addr
 fd_Book_time : FuncData
 f_Book_due : Addr
 fd_Book_due : FuncData
 f_Book_left : Addr
 fd_Book_left : FuncData
 f_Book_where : Addr
 fd_Book_where : FuncData
 f_Book_lying : Addr
 fd_Book_lying : FuncData
 f_check_tick : Addr
 fd_check_tick : FuncData
 f_check_step : Addr
 fd_check_step : FuncData
 f_check_stretch : Addr
 fd_check_stretch : FuncData
 f_start_waiting : Addr
 fd_start_waiting : FuncData
 f_stop_waiting : Addr
 fd_stop_waiting : FuncData
 f_forget : Addr
 fd_forget : FuncData
 f_set_alarm : Addr
 fd_set_alarm : FuncData
 f_take_back : Addr
 fd_take_back : FuncData
 f_move : Addr
 fd_move : FuncData
 f_rest : Addr
 fd_rest : FuncData
 f_go_on : Addr
 fd_go_on : FuncData
 f_ring : Addr
 fd_ring : FuncData
 f_turn_to : Addr
 fd_turn_to : FuncData
 f_pass_ticks : Addr
 fd_pass_ticks : FuncData
 f__law_cell : Addr
 fd__law_cell : FuncData
 f__law_mix : Addr
 fd__law_mix : FuncData
 f__law_new : Addr
 fd__law_new : FuncData
 f__law_set : Addr
 fd__law_set : FuncData
 f__law_move : Addr
 fd__law_move : FuncData
 f__law_back : Addr
 fd__law_back : FuncData
 f__law_rest : Addr
 fd__law_rest : FuncData
 f__law_on : Addr
 fd__law_on : FuncData
 f__law_pass : Addr
 fd__law_pass : FuncData
 f__law_wheels : Addr
 fd__law_wheels : FuncData
 f__law_ticks : Addr
 fd__law_ticks : FuncData
 f__law_deed : Addr
 fd__law_deed : FuncData
 f__law_done : Addr
 fd__law_done : FuncData
 f__law_asked : Addr
 fd__law_asked : FuncData
 f__law_where : Addr
 fd__law_where : FuncData
 f__law_lies : Addr
 fd__law_lies : FuncData
 f__law_none : Addr
 fd__law_none : FuncData
 f_law : Addr
 fd_law : FuncData
 C_Wheels : Addr
 C_Row : Addr
 C_Rack : Addr
 C_Book : Addr
 C_TickError : Addr
 C_BadWheels : Addr
 C_Past : Addr
 C_NotThere : Addr
 t_FEWEST_SLOTS : Tok
 t_MOST_SLOTS : Tok
 t_FEWEST_LEVELS : Tok
 t_MOST_LEVELS : Tok
open W in
structure Txt (K : W.Frag) (mg : Str → Option Value) (a : Ad) : Prop where
 c_Wheels : mg "Wheels" = some (.ref a.C_Wheels)
 cl_Wheels : Cls K a.C_Wheels
 n_Wheels_slots : NoAttr K a.C_Wheels "slots"
 n_Wheels_spans : NoAttr K a.C_Wheels "spans"
 c_Row : mg "Row" = some (.ref a.C_Row)
 cl_Row : Cls K a.C_Row
 n_Row_span : NoAttr K a.C_Row "span"
 n_Row_filled : NoAttr K a.C_Row "filled"
 n_Row_rising : NoAttr K a.C_Row "rising"
 c_Rack : mg "Rack" = some (.ref a.C_Rack)
 cl_Rack : Cls K a.C_Rack
 n_Rack_wheels : NoAttr K a.C_Rack "wheels"
 n_Rack_rows : NoAttr K a.C_Rack "rows"
 c_Book : mg "Book" = some (.ref a.C_Book)
 cl_Book : Cls K a.C_Book
 n_Book_rack : NoAttr K a.C_Book "rack"
 n_Book_now : NoAttr K a.C_Book "now"
 n_Book_next_number : NoAttr K a.C_Book "next_number"
 n_Book_names : NoAttr K a.C_Book "names"
 n_Book_steps : NoAttr K a.C_Book "steps"
 n_Book_ticks : NoAttr K a.C_Book "ticks"
 n_Book_kept_ticks : NoAttr K a.C_Book "kept_ticks"
 c_TickError : mg "TickError" = some (.ref a.C_TickError)
 x_TickError : excIn K a.C_TickError bmV "ValueError.__new__" = true
 ct_TickError : Ctch K a.C_TickError
 ec_TickError : ExcC K a.C_TickError
 kv_TickError : kitOne K (.ref a.C_TickError) (.type "ValueError") = some true
 c_BadWheels : mg "BadWheels" = some (.ref a.C_BadWheels)
 x_BadWheels : excIn K a.C_BadWheels bmV "ValueError.__new__" = true
 ct_BadWheels : Ctch K a.C_BadWheels
 ec_BadWheels : ExcC K a.C_BadWheels
 kv_BadWheels : kitOne K (.ref a.C_BadWheels) (.type "ValueError") = some true
 c_Past : mg "Past" = some (.ref a.C_Past)
 x_Past : excIn K a.C_Past bmV "ValueError.__new__" = true
 ct_Past : Ctch K a.C_Past
 ec_Past : ExcC K a.C_Past
 kv_Past : kitOne K (.ref a.C_Past) (.type "ValueError") = some true
 c_NotThere : mg "NotThere" = some (.ref a.C_NotThere)
 x_NotThere : excIn K a.C_NotThere bmV "ValueError.__new__" = true
 ct_NotThere : Ctch K a.C_NotThere
 ec_NotThere : ExcC K a.C_NotThere
 kv_NotThere : kitOne K (.ref a.C_NotThere) (.type "ValueError") = some true
 sb_TickError_TickError : subIn K (.ref a.C_TickError) (.ref a.C_TickError) = some true
 kt_TickError_TickError : kitOne K (.ref a.C_TickError) (.ref a.C_TickError) = some true
 sb_TickError_BadWheels : subIn K (.ref a.C_TickError) (.ref a.C_BadWheels) = some false
 kt_TickError_BadWheels : kitOne K (.ref a.C_TickError) (.ref a.C_BadWheels) = some false
 sb_TickError_Past : subIn K (.ref a.C_TickError) (.ref a.C_Past) = some false
 kt_TickError_Past : kitOne K (.ref a.C_TickError) (.ref a.C_Past) = some false
 sb_TickError_NotThere : subIn K (.ref a.C_TickError) (.ref a.C_NotThere) = some false
 kt_TickError_NotThere : kitOne K (.ref a.C_TickError) (.ref a.C_NotThere) = some false
 sb_BadWheels_BadWheels : subIn K (.ref a.C_BadWheels) (.ref a.C_BadWheels) = some true
 kt_BadWheels_BadWheels : kitOne K (.ref a.C_BadWheels) (.ref a.C_BadWheels) = some true
 sb_BadWheels_TickError : subIn K (.ref a.C_BadWheels) (.ref a.C_TickError) = some true
 kt_BadWheels_TickError : kitOne K (.ref a.C_BadWheels) (.ref a.C_TickError) = some true
 sb_BadWheels_Past : subIn K (.ref a.C_BadWheels) (.ref a.C_Past) = some false
 kt_BadWheels_Past : kitOne K (.ref a.C_BadWheels) (.ref a.C_Past) = some false
 sb_BadWheels_NotThere : subIn K (.ref a.C_BadWheels) (.ref a.C_NotThere) = some false
 kt_BadWheels_NotThere : kitOne K (.ref a.C_BadWheels) (.ref a.C_NotThere) = some false
 sb_Past_Past : subIn K (.ref a.C_Past) (.ref a.C_Past) = some true
 kt_Past_Past : kitOne K (.ref a.C_Past) (.ref a.C_Past) = some true
 sb_Past_TickError : subIn K (.ref a.C_Past) (.ref a.C_TickError) = some true
 kt_Past_TickError : kitOne K (.ref a.C_Past) (.ref a.C_TickError) = some true
 sb_Past_BadWheels : subIn K (.ref a.C_Past) (.ref a.C_BadWheels) = some false
 kt_Past_BadWheels : kitOne K (.ref a.C_Past) (.ref a.C_BadWheels) = some false
 sb_Past_NotThere : subIn K (.ref a.C_Past) (.ref a.C_NotThere) = some false
 kt_Past_NotThere : kitOne K (.ref a.C_Past) (.ref a.C_NotThere) = some false
 sb_NotThere_NotThere : subIn K (.ref a.C_NotThere) (.ref a.C_NotThere) = some true
 kt_NotThere_NotThere : kitOne K (.ref a.C_NotThere) (.ref a.C_NotThere) = some true
 sb_NotThere_TickError : subIn K (.ref a.C_NotThere) (.ref a.C_TickError) = some true
 kt_NotThere_TickError : kitOne K (.ref a.C_NotThere) (.ref a.C_TickError) = some true
 sb_NotThere_BadWheels : subIn K (.ref a.C_NotThere) (.ref a.C_BadWheels) = some false
 kt_NotThere_BadWheels : kitOne K (.ref a.C_NotThere) (.ref a.C_BadWheels) = some false
 sb_NotThere_Past : subIn K (.ref a.C_NotThere) (.ref a.C_Past) = some false
 kt_NotThere_Past : kitOne K (.ref a.C_NotThere) (.ref a.C_Past) = some false
 f_check_wheels : mg "check_wheels" = some (.ref a.f_check_wheels)
 F_check_wheels : Fun K "check_wheels" "check_wheels" YA a.f_check_wheels a.fd_check_wheels
 kp_check_wheels : keepIn K (.ref a.f_check_wheels) = true
 B_check_wheels : Binds K a.fd_check_wheels ["slots", "levels"] []
 f_slot_spans : mg "slot_spans" = some (.ref a.f_slot_spans)
 F_slot_spans : Fun K "slot_spans" "slot_spans" YU a.f_slot_spans a.fd_slot_spans
 kp_slot_spans : keepIn K (.ref a.f_slot_spans) = true
 B_slot_spans : Binds K a.fd_slot_spans ["slots", "levels"] []
 F_Wheels___init__ : Fun K "__init__" "Wheels.__init__" Yd a.f_Wheels___init__ a.fd_Wheels___init__
 kp_Wheels___init__ : keepIn K (.ref a.f_Wheels___init__) = true
 B_Wheels___init__ : Binds K a.fd_Wheels___init__ ["self", "slots", "levels"] []
 m_Wheels___init__ : Meth K a.C_Wheels "__init__" a.f_Wheels___init__
 M_Wheels : Mk K a.C_Wheels a.f_Wheels___init__
 F_Wheels_place : Fun K "place" "Wheels.place" YB a.f_Wheels_place a.fd_Wheels_place
 kp_Wheels_place : keepIn K (.ref a.f_Wheels_place) = true
 B_Wheels_place : Binds K a.fd_Wheels_place ["self", "now", "due"] []
 m_Wheels_place : Meth K a.C_Wheels "place" a.f_Wheels_place
 f_position : mg "position" = some (.ref a.f_position)
 F_position : Fun K "position" "position" XG a.f_position a.fd_position
 kp_position : keepIn K (.ref a.f_position) = true
 B_position : Binds K a.fd_position ["rising", "value"] []
 F_Row___init__ : Fun K "__init__" "Row.__init__" YC a.f_Row___init__ a.fd_Row___init__
 kp_Row___init__ : keepIn K (.ref a.f_Row___init__) = true
 B_Row___init__ : Binds K a.fd_Row___init__ ["self", "span"] []
 m_Row___init__ : Meth K a.C_Row "__init__" a.f_Row___init__
 M_Row : Mk K a.C_Row a.f_Row___init__
 F_Row_put : Fun K "put" "Row.put" Vh a.f_Row_put a.fd_Row_put
 kp_Row_put : keepIn K (.ref a.f_Row_put) = true
 B_Row_put : Binds K a.fd_Row_put ["self", "number", "tick"] []
 m_Row_put : Meth K a.C_Row "put" a.f_Row_put
 F_Row_take : Fun K "take" "Row.take" XL a.f_Row_take a.fd_Row_take
 kp_Row_take : keepIn K (.ref a.f_Row_take) = true
 B_Row_take : Binds K a.fd_Row_take ["self", "number", "tick"] []
 m_Row_take : Meth K a.C_Row "take" a.f_Row_take
 F_Row_take_slot : Fun K "take_slot" "Row.take_slot" Yu a.f_Row_take_slot a.fd_Row_take_slot
 kp_Row_take_slot : keepIn K (.ref a.f_Row_take_slot) = true
 B_Row_take_slot : Binds K a.fd_Row_take_slot ["self", "slot"] []
 m_Row_take_slot : Meth K a.C_Row "take_slot" a.f_Row_take_slot
 F_Row_numbers_in : Fun K "numbers_in" "Row.numbers_in" Ym a.f_Row_numbers_in a.fd_Row_numbers_in
 kp_Row_numbers_in : keepIn K (.ref a.f_Row_numbers_in) = true
 B_Row_numbers_in : Binds K a.fd_Row_numbers_in ["self", "slot"] []
 m_Row_numbers_in : Meth K a.C_Row "numbers_in" a.f_Row_numbers_in
 F_Rack___init__ : Fun K "__init__" "Rack.__init__" Yv a.f_Rack___init__ a.fd_Rack___init__
 kp_Rack___init__ : keepIn K (.ref a.f_Rack___init__) = true
 B_Rack___init__ : Binds K a.fd_Rack___init__ ["self", "slots", "levels"] []
 m_Rack___init__ : Meth K a.C_Rack "__init__" a.f_Rack___init__
 M_Rack : Mk K a.C_Rack a.f_Rack___init__
 F_Rack_row_of : Fun K "row_of" "Rack.row_of" YN a.f_Rack_row_of a.fd_Rack_row_of
 kp_Rack_row_of : keepIn K (.ref a.f_Rack_row_of) = true
 B_Rack_row_of : Binds K a.fd_Rack_row_of ["self", "now", "tick"] []
 m_Rack_row_of : Meth K a.C_Rack "row_of" a.f_Rack_row_of
 F_Rack_put : Fun K "put" "Rack.put" XM a.f_Rack_put a.fd_Rack_put
 kp_Rack_put : keepIn K (.ref a.f_Rack_put) = true
 B_Rack_put : Binds K a.fd_Rack_put ["self", "now", "number", "tick"] []
 m_Rack_put : Meth K a.C_Rack "put" a.f_Rack_put
 F_Rack_take : Fun K "take" "Rack.take" Xw a.f_Rack_take a.fd_Rack_take
 kp_Rack_take : keepIn K (.ref a.f_Rack_take) = true
 B_Rack_take : Binds K a.fd_Rack_take ["self", "now", "number", "tick"] []
 m_Rack_take : Meth K a.C_Rack "take" a.f_Rack_take
 F_Rack_numbers_at : Fun K "numbers_at" "Rack.numbers_at" Yf a.f_Rack_numbers_at a.fd_Rack_numbers_at
 kp_Rack_numbers_at : keepIn K (.ref a.f_Rack_numbers_at) = true
 B_Rack_numbers_at : Binds K a.fd_Rack_numbers_at ["self", "now", "level", "slot"] []
 m_Rack_numbers_at : Meth K a.C_Rack "numbers_at" a.f_Rack_numbers_at
 F_Rack_first_row : Fun K "first_row" "Rack.first_row" Yn a.f_Rack_first_row a.fd_Rack_first_row
 kp_Rack_first_row : keepIn K (.ref a.f_Rack_first_row) = true
 B_Rack_first_row : Binds K a.fd_Rack_first_row ["self"] []
 m_Rack_first_row : Meth K a.C_Rack "first_row" a.f_Rack_first_row
 F_Rack_first_start : Fun K "first_start" "Rack.first_start" ZX a.f_Rack_first_start a.fd_Rack_first_start
 kp_Rack_first_start : keepIn K (.ref a.f_Rack_first_start) = true
 B_Rack_first_start : Binds K a.fd_Rack_first_start ["self"] []
 m_Rack_first_start : Meth K a.C_Rack "first_start" a.f_Rack_first_start
 F_Rack_take_first : Fun K "take_first" "Rack.take_first" Ye a.f_Rack_take_first a.fd_Rack_take_first
 kp_Rack_take_first : keepIn K (.ref a.f_Rack_take_first) = true
 B_Rack_take_first : Binds K a.fd_Rack_take_first ["self"] []
 m_Rack_take_first : Meth K a.C_Rack "take_first" a.f_Rack_take_first
 F_Book___init__ : Fun K "__init__" "Book.__init__" Yw a.f_Book___init__ a.fd_Book___init__
 kp_Book___init__ : keepIn K (.ref a.f_Book___init__) = true
 B_Book___init__ : Binds K a.fd_Book___init__ ["self", "slots", "levels"] []
 m_Book___init__ : Meth K a.C_Book "__init__" a.f_Book___init__
 M_Book : Mk K a.C_Book a.f_Book___init__
 F_Book_time : Fun K "time" "Book.time" XV a.f_Book_time a.fd_Book_time
 kp_Book_time : keepIn K (.ref a.f_Book_time) = true
 B_Book_time : Binds K a.fd_Book_time ["self"] []
 m_Book_time : Meth K a.C_Book "time" a.f_Book_time
 F_Book_due : Fun K "due" "Book.due" XO a.f_Book_due a.fd_Book_due
 kp_Book_due : keepIn K (.ref a.f_Book_due) = true
 B_Book_due : Binds K a.fd_Book_due ["self", "number"] []
 m_Book_due : Meth K a.C_Book "due" a.f_Book_due
 F_Book_left : Fun K "left" "Book.left" Xx a.f_Book_left a.fd_Book_left
 kp_Book_left : keepIn K (.ref a.f_Book_left) = true
 B_Book_left : Binds K a.fd_Book_left ["self", "number"] []
 m_Book_left : Meth K a.C_Book "left" a.f_Book_left
 F_Book_where : Fun K "where" "Book.where" Xb a.f_Book_where a.fd_Book_where
 kp_Book_where : keepIn K (.ref a.f_Book_where) = true
 B_Book_where : Binds K a.fd_Book_where ["self", "number"] []
 m_Book_where : Meth K a.C_Book "where" a.f_Book_where
 F_Book_lying : Fun K "lying" "Book.lying" Xc a.f_Book_lying a.fd_Book_lying
 kp_Book_lying : keepIn K (.ref a.f_Book_lying) = true
 B_Book_lying : Binds K a.fd_Book_lying ["self", "level", "slot"] []
 m_Book_lying : Meth K a.C_Book "lying" a.f_Book_lying
 f_check_tick : mg "check_tick" = some (.ref a.f_check_tick)
 F_check_tick : Fun K "check_tick" "check_tick" YW a.f_check_tick a.fd_check_tick
 kp_check_tick : keepIn K (.ref a.f_check_tick) = true
 B_check_tick : Binds K a.fd_check_tick ["book", "due"] []
 f_check_step : mg "check_step" = some (.ref a.f_check_step)
 F_check_step : Fun K "check_step" "check_step" YX a.f_check_step a.fd_check_step
 kp_check_step : keepIn K (.ref a.f_check_step) = true
 B_check_step : Binds K a.fd_check_step ["step"] []
 f_check_stretch : mg "check_stretch" = some (.ref a.f_check_stretch)
 F_check_stretch : Fun K "check_stretch" "check_stretch" Yt a.f_check_stretch a.fd_check_stretch
 kp_check_stretch : keepIn K (.ref a.f_check_stretch) = true
 B_check_stretch : Binds K a.fd_check_stretch ["ticks"] []
 f_start_waiting : mg "start_waiting" = some (.ref a.f_start_waiting)
 F_start_waiting : Fun K "start_waiting" "start_waiting" Ys a.f_start_waiting a.fd_start_waiting
 kp_start_waiting : keepIn K (.ref a.f_start_waiting) = true
 B_start_waiting : Binds K a.fd_start_waiting ["book", "number", "tick"] []
 f_stop_waiting : mg "stop_waiting" = some (.ref a.f_stop_waiting)
 F_stop_waiting : Fun K "stop_waiting" "stop_waiting" Yz a.f_stop_waiting a.fd_stop_waiting
 kp_stop_waiting : keepIn K (.ref a.f_stop_waiting) = true
 B_stop_waiting : Binds K a.fd_stop_waiting ["book", "number"] []
 f_forget : mg "forget" = some (.ref a.f_forget)
 F_forget : Fun K "forget" "forget" VD a.f_forget a.fd_forget
 kp_forget : keepIn K (.ref a.f_forget) = true
 B_forget : Binds K a.fd_forget ["book", "number"] []
 f_set_alarm : mg "set_alarm" = some (.ref a.f_set_alarm)
 F_set_alarm : Fun K "set_alarm" "set_alarm" Xm a.f_set_alarm a.fd_set_alarm
 kp_set_alarm : keepIn K (.ref a.f_set_alarm) = true
 B_set_alarm : Binds K a.fd_set_alarm ["book", "name", "due", "step"] []
 f_take_back : mg "take_back" = some (.ref a.f_take_back)
 F_take_back : Fun K "take_back" "take_back" Xl a.f_take_back a.fd_take_back
 kp_take_back : keepIn K (.ref a.f_take_back) = true
 B_take_back : Binds K a.fd_take_back ["book", "number"] []
 f_move : mg "move" = some (.ref a.f_move)
 F_move : Fun K "move" "move" Ty a.f_move a.fd_move
 kp_move : keepIn K (.ref a.f_move) = true
 B_move : Binds K a.fd_move ["book", "number", "due"] []
 f_rest : mg "rest" = some (.ref a.f_rest)
 F_rest : Fun K "rest" "rest" Tx a.f_rest a.fd_rest
 kp_rest : keepIn K (.ref a.f_rest) = true
 B_rest : Binds K a.fd_rest ["book", "number"] []
 f_go_on : mg "go_on" = some (.ref a.f_go_on)
 F_go_on : Fun K "go_on" "go_on" UB a.f_go_on a.fd_go_on
 kp_go_on : keepIn K (.ref a.f_go_on) = true
 B_go_on : Binds K a.fd_go_on ["book", "number"] []
 f_ring : mg "ring" = some (.ref a.f_ring)
 F_ring : Fun K "ring" "ring" Tw a.f_ring a.fd_ring
 kp_ring : keepIn K (.ref a.f_ring) = true
 B_ring : Binds K a.fd_ring ["book", "number"] []
 f_turn_to : mg "turn_to" = some (.ref a.f_turn_to)
 F_turn_to : Fun K "turn_to" "turn_to" Vf a.f_turn_to a.fd_turn_to
 kp_turn_to : keepIn K (.ref a.f_turn_to) = true
 B_turn_to : Binds K a.fd_turn_to ["book", "start"] []
 f_pass_ticks : mg "pass_ticks" = some (.ref a.f_pass_ticks)
 F_pass_ticks : Fun K "pass_ticks" "pass_ticks" YV a.f_pass_ticks a.fd_pass_ticks
 kp_pass_ticks : keepIn K (.ref a.f_pass_ticks) = true
 B_pass_ticks : Binds K a.fd_pass_ticks ["book", "ticks"] []
 f__law_cell : mg "_law_cell" = some (.ref a.f__law_cell)
 F__law_cell : Fun K "_law_cell" "_law_cell" Xu a.f__law_cell a.fd__law_cell
 kp__law_cell : keepIn K (.ref a.f__law_cell) = true
 B__law_cell : Binds K a.fd__law_cell ["_law_script", "_law_k"] []
 f__law_mix : mg "_law_mix" = some (.ref a.f__law_mix)
 F__law_mix : Fun K "_law_mix" "_law_mix" XJ a.f__law_mix a.fd__law_mix
 kp__law_mix : keepIn K (.ref a.f__law_mix) = true
 B__law_mix : Binds K a.fd__law_mix ["_law_script", "_law_k"] []
 f__law_new : mg "_law_new" = some (.ref a.f__law_new)
 F__law_new : Fun K "_law_new" "_law_new" XI a.f__law_new a.fd__law_new
 kp__law_new : keepIn K (.ref a.f__law_new) = true
 B__law_new : Binds K a.fd__law_new ["_law_slots", "_law_levels"] []
 f__law_set : mg "_law_set" = some (.ref a.f__law_set)
 F__law_set : Fun K "_law_set" "_law_set" XH a.f__law_set a.fd__law_set
 kp__law_set : keepIn K (.ref a.f__law_set) = true
 B__law_set : Binds K a.fd__law_set ["_law_world", "_law_name", "_law_due", "_law_step"] []
 f__law_move : mg "_law_move" = some (.ref a.f__law_move)
 F__law_move : Fun K "_law_move" "_law_move" Xq a.f__law_move a.fd__law_move
 kp__law_move : keepIn K (.ref a.f__law_move) = true
 B__law_move : Binds K a.fd__law_move ["_law_world", "_law_number", "_law_due"] []
 f__law_back : mg "_law_back" = some (.ref a.f__law_back)
 F__law_back : Fun K "_law_back" "_law_back" Xv a.f__law_back a.fd__law_back
 kp__law_back : keepIn K (.ref a.f__law_back) = true
 B__law_back : Binds K a.fd__law_back ["_law_world", "_law_number"] []
 f__law_rest : mg "_law_rest" = some (.ref a.f__law_rest)
 F__law_rest : Fun K "_law_rest" "_law_rest" Xn a.f__law_rest a.fd__law_rest
 kp__law_rest : keepIn K (.ref a.f__law_rest) = true
 B__law_rest : Binds K a.fd__law_rest ["_law_world", "_law_number"] []
 f__law_on : mg "_law_on" = some (.ref a.f__law_on)
 F__law_on : Fun K "_law_on" "_law_on" Vg a.f__law_on a.fd__law_on
 kp__law_on : keepIn K (.ref a.f__law_on) = true
 B__law_on : Binds K a.fd__law_on ["_law_world", "_law_number"] []
 f__law_pass : mg "_law_pass" = some (.ref a.f__law_pass)
 F__law_pass : Fun K "_law_pass" "_law_pass" Xo a.f__law_pass a.fd__law_pass
 kp__law_pass : keepIn K (.ref a.f__law_pass) = true
 B__law_pass : Binds K a.fd__law_pass ["_law_world", "_law_ticks_here"] []
 f__law_wheels : mg "_law_wheels" = some (.ref a.f__law_wheels)
 F__law_wheels : Fun K "_law_wheels" "_law_wheels" YM a.f__law_wheels a.fd__law_wheels
 kp__law_wheels : keepIn K (.ref a.f__law_wheels) = true
 B__law_wheels : Binds K a.fd__law_wheels ["_law_script", "_law_k"] []
 f__law_ticks : mg "_law_ticks" = some (.ref a.f__law_ticks)
 F__law_ticks : Fun K "_law_ticks" "_law_ticks" YZ a.f__law_ticks a.fd__law_ticks
 kp__law_ticks : keepIn K (.ref a.f__law_ticks) = true
 B__law_ticks : Binds K a.fd__law_ticks ["_law_script", "_law_k", "_law_world"] []
 f__law_deed : mg "_law_deed" = some (.ref a.f__law_deed)
 F__law_deed : Fun K "_law_deed" "_law_deed" Xt a.f__law_deed a.fd__law_deed
 kp__law_deed : keepIn K (.ref a.f__law_deed) = true
 B__law_deed : Binds K a.fd__law_deed ["_law_script", "_law_k", "_law_world"] []
 f__law_done : mg "_law_done" = some (.ref a.f__law_done)
 F__law_done : Fun K "_law_done" "_law_done" Xs a.f__law_done a.fd__law_done
 kp__law_done : keepIn K (.ref a.f__law_done) = true
 B__law_done : Binds K a.fd__law_done ["_law_world", "_law_deed_here"] []
 f__law_asked : mg "_law_asked" = some (.ref a.f__law_asked)
 F__law_asked : Fun K "_law_asked" "_law_asked" Xa a.f__law_asked a.fd__law_asked
 kp__law_asked : keepIn K (.ref a.f__law_asked) = true
 B__law_asked : Binds K a.fd__law_asked ["_law_book", "_law_deed_here"] []
 f__law_where : mg "_law_where" = some (.ref a.f__law_where)
 F__law_where : Fun K "_law_where" "_law_where" YY a.f__law_where a.fd__law_where
 kp__law_where : keepIn K (.ref a.f__law_where) = true
 B__law_where : Binds K a.fd__law_where ["_law_world", "_law_due"] []
 f__law_lies : mg "_law_lies" = some (.ref a.f__law_lies)
 F__law_lies : Fun K "_law_lies" "_law_lies" Xr a.f__law_lies a.fd__law_lies
 kp__law_lies : keepIn K (.ref a.f__law_lies) = true
 B__law_lies : Binds K a.fd__law_lies ["_law_book", "_law_world"] []
 f__law_none : mg "_law_none" = some (.ref a.f__law_none)
 F__law_none : Fun K "_law_none" "_law_none" Xp a.f__law_none a.fd__law_none
 kp__law_none : keepIn K (.ref a.f__law_none) = true
 B__law_none : Binds K a.fd__law_none ["_law_book", "_law_number"] []
 f_law : mg "law" = some (.ref a.f_law)
 F_law : Fun K "law" "law" Rx a.f_law a.fd_law
 kp_law : keepIn K (.ref a.f_law) = true
 B_law : Binds K a.fd_law ["_law_script"] []
 b_len : mg "len" = none
 b_range : mg "range" = none
 b_sorted : mg "sorted" = none
 b_min : mg "min" = none
 b_max : mg "max" = none
 b_sum : mg "sum" = none
 b_all : mg "all" = none
 b_isinstance : mg "isinstance" = none
 b_int : mg "int" = none
 b_bool : mg "bool" = none
 b_tuple : mg "tuple" = none
 b_list : mg "list" = none
 b_ValueError : mg "ValueError" = none
 b_enumerate : mg "enumerate" = none
 k_FEWEST_SLOTS : mg "FEWEST_SLOTS" = some (.int (2) a.t_FEWEST_SLOTS)
 k_MOST_SLOTS : mg "MOST_SLOTS" = some (.int (64) a.t_MOST_SLOTS)
 k_FEWEST_LEVELS : mg "FEWEST_LEVELS" = some (.int (1) a.t_FEWEST_LEVELS)
 k_MOST_LEVELS : mg "MOST_LEVELS" = some (.int (6) a.t_MOST_LEVELS)
set_option maxHeartbeats 0 in
open W in
theorem txt_mk {K : W.Frag} {h : Heap} {mg : Str → Option Value} (X : K.In h) (G : h.Ns mainGlobals mg)
   {f0 f1 f2 f3 f4 f5 f6 f7 f8 f9 f10 f11 f12 f13 f14 f15 f16 f17 f18 f19 f20 f21 f22 f23 f24 f25 f26 f27 f28 f29 f30 f31 f32 f33 f34 f35 f36 f37 f38 f39 f40 f41 f42 f43 f44 f45 f46 f47 f48 f49 f50 f51 f52 f53 f54 f55 : Addr}
   {o0 o1 o2 o3 o4 o5 o6 o7 o8 o9 o10 o11 o12 o13 o14 o15 o16 o17 o18 o19 o20 o21 o22 o23 o24 o25 o26 o27 o28 o29 o30 o31 o32 o33 o34 o35 o36 o37 o38 o39 o40 o41 o42 o43 o44 o45 o46 o47 o48 o49 o50 o51 o52 o53 o54 o55 k0 k1 k2 k3 k4 k5 k6 k7 k8 k9 k10 k11 k12 k13 k14 k15 k16 k17 k18 k19 k20 k21 k22 k23 k24 k25 k26 k27 k28 k29 k30 k31 k32 k33 k34 k35 k36 k37 k38 k39 k40 k41 k42 k43 k44 k45 k46 k47 k48 k49 k50 k51 k52 k53 k54 k55 d0 d1 d2 d3 d4 d5 d6 d7 d8 d9 d10 d11 d12 d13 d14 d15 d16 d17 d18 d19 d20 d21 d22 d23 d24 d25 d26 d27 d28 d29 d30 d31 d32 d33 d34 d35 d36 d37 d38 d39 d40 d41 d42 d43 d44 d45 d46 d47 d48 d49 d50 d51 d52 d53 d54 d55 p0 p1 p2 p3 p4 p5 p6 p7 p8 p9 p10 p11 p12 p13 p14 p15 p16 p17 p18 p19 p20 p21 p22 p23 p24 p25 p26 p27 p28 p29 p30 p31 p32 p33 p34 p35 p36 p37 p38 p39 p40 p41 p42 p43 p44 p45 p46 p47 p48 p49 p50 p51 p52 p53 p54 p55 c0 c1 c2 c3 c4 c5 c6 c7 c8 c9 c10 c11 c12 c13 c14 c15 c16 c17 c18 c19 c20 c21 c22 c23 c24 c25 c26 c27 c28 c29 c30 c31 c32 c33 c34 c35 c36 c37 c38 c39 c40 c41 c42 c43 c44 c45 c46 c47 c48 c49 c50 c51 c52 c53 c54 c55 t0 t1 t2 t3 t4 t5 t6 t7 t8 t9 t10 t11 t12 t13 t14 t15 t16 t17 t18 t19 t20 t21 t22 t23 t24 t25 t26 t27 t28 t29 t30 t31 t32 t33 t34 t35 t36 t37 t38 t39 t40 t41 t42 t43 t44 t45 t46 t47 t48 t49 t50 t51 t52 t53 t54 t55 : Value}
   {u0 u1 u2 u3 u4 u5 u6 u7 u8 u9 u10 u11 u12 u13 u14 u15 u16 u17 u18 u19 u20 u21 u22 u23 u24 u25 u26 u27 u28 u29 u30 u31 u32 u33 u34 u35 u36 u37 u38 u39 u40 u41 u42 u43 u44 u45 u46 u47 u48 u49 u50 u51 u52 u53 u54 u55 n0 n1 n2 n3 n4 n5 n6 n7 n8 n9 n10 n11 n12 n13 n14 n15 n16 n17 n18 n19 n20 n21 n22 n23 n24 n25 n26 n27 n28 n29 n30 n31 n32 n33 n34 n35 n36 n37 n38 n39 n40 n41 n42 n43 n44 n45 n46 n47 n48 n49 n50 n51 n52 n53 n54 n55 : Option Addr}
   {l0 l1 l2 l3 l4 l5 l6 l7 l8 l9 l10 l11 l12 l13 l14 l15 l16 l17 l18 l19 l20 l21 l22 l23 l24 l25 l26 l27 l28 l29 l30 l31 l32 l33 l34 l35 l36 l37 l38 l39 l40 l41 l42 l43 l44 l45 l46 l47 l48 l49 l50 l51 l52 l53 l54 l55 : Array (Option Value)}
   {C_Wheels : Addr}
   {C_Row : Addr}
   {C_Rack : Addr}
   {C_Book : Addr}
   {C_TickError : Addr}
   {C_BadWheels : Addr}
   {C_Past : Addr}
   {C_NotThere : Addr}
   {t_FEWEST_SLOTS : Tok}
   {t_MOST_SLOTS : Tok}
   {t_FEWEST_LEVELS : Tok}
   {t_MOST_LEVELS : Tok}
 (e1 : nsIn K mainGlobals "Wheels" = some (some (.ref C_Wheels)))
 (e2 : plainGet K C_Wheels Str.empty = true)
 (e3 : hasDictIn K C_Wheels = true)
 (e4 : plainOver K C_Wheels = true)
 (e5 : findIn K (.ref C_Wheels) "__setattr__" = some (some (.builtin "object.__setattr__")))
 (e6 : findIn K (.ref C_Wheels) "slots" = some none)
 (e7 : findIn K (.ref C_Wheels) "spans" = some none)
 (e8 : nsIn K mainGlobals "Row" = some (some (.ref C_Row)))
 (e9 : plainGet K C_Row Str.empty = true)
 (e10 : hasDictIn K C_Row = true)
 (e11 : plainOver K C_Row = true)
 (e12 : findIn K (.ref C_Row) "__setattr__" = some (some (.builtin "object.__setattr__")))
 (e13 : findIn K (.ref C_Row) "span" = some none)
 (e14 : findIn K (.ref C_Row) "filled" = some none)
 (e15 : findIn K (.ref C_Row) "rising" = some none)
 (e16 : nsIn K mainGlobals "Rack" = some (some (.ref C_Rack)))
 (e17 : plainGet K C_Rack Str.empty = true)
 (e18 : hasDictIn K C_Rack = true)
 (e19 : plainOver K C_Rack = true)
 (e20 : findIn K (.ref C_Rack) "__setattr__" = some (some (.builtin "object.__setattr__")))
 (e21 : findIn K (.ref C_Rack) "wheels" = some none)
 (e22 : findIn K (.ref C_Rack) "rows" = some none)
 (e23 : nsIn K mainGlobals "Book" = some (some (.ref C_Book)))
 (e24 : plainGet K C_Book Str.empty = true)
 (e25 : hasDictIn K C_Book = true)
 (e26 : plainOver K C_Book = true)
 (e27 : findIn K (.ref C_Book) "__setattr__" = some (some (.builtin "object.__setattr__")))
 (e28 : findIn K (.ref C_Book) "rack" = some none)
 (e29 : findIn K (.ref C_Book) "now" = some none)
 (e30 : findIn K (.ref C_Book) "next_number" = some none)
 (e31 : findIn K (.ref C_Book) "names" = some none)
 (e32 : findIn K (.ref C_Book) "steps" = some none)
 (e33 : findIn K (.ref C_Book) "ticks" = some none)
 (e34 : findIn K (.ref C_Book) "kept_ticks" = some none)
 (e35 : nsIn K mainGlobals "TickError" = some (some (.ref C_TickError)))
 (e36 : excIn K C_TickError [.type "ValueError", .type "Exception", .type "BaseException", .type "object"] "ValueError.__new__" = true)
 (e37 : mroIn K C_TickError (.type "object") = some true)
 (e38 : mroIn K C_TickError (.type "BaseException") = some true)
 (e39 : instIn K (.ref C_TickError) (.type "tuple") = some false)
 (e40 : subIn K (.ref C_TickError) (.type "BaseException") = some true)
 (e41 : findIn K (.ref C_TickError) "__getattribute__" = some (some (.builtin "BaseException.__getattribute__")))
 (e42 : findIn K (.ref C_TickError) "__getattr__" = some none)
 (e43 : findIn K (.ref C_TickError) "__class__" = some (some (.builtin "object.__class__")))
 (e44 : typeIn K (.ref C_TickError) = some (.type "type"))
 (e45 : subIn K (.ref C_TickError) (.type "ValueError") = some true)
 (e46 : nsIn K mainGlobals "BadWheels" = some (some (.ref C_BadWheels)))
 (e47 : excIn K C_BadWheels [.type "ValueError", .type "Exception", .type "BaseException", .type "object"] "ValueError.__new__" = true)
 (e48 : mroIn K C_BadWheels (.type "object") = some true)
 (e49 : mroIn K C_BadWheels (.type "BaseException") = some true)
 (e50 : instIn K (.ref C_BadWheels) (.type "tuple") = some false)
 (e51 : subIn K (.ref C_BadWheels) (.type "BaseException") = some true)
 (e52 : findIn K (.ref C_BadWheels) "__getattribute__" = some (some (.builtin "BaseException.__getattribute__")))
 (e53 : findIn K (.ref C_BadWheels) "__getattr__" = some none)
 (e54 : findIn K (.ref C_BadWheels) "__class__" = some (some (.builtin "object.__class__")))
 (e55 : typeIn K (.ref C_BadWheels) = some (.type "type"))
 (e56 : subIn K (.ref C_BadWheels) (.type "ValueError") = some true)
 (e57 : nsIn K mainGlobals "Past" = some (some (.ref C_Past)))
 (e58 : excIn K C_Past [.type "ValueError", .type "Exception", .type "BaseException", .type "object"] "ValueError.__new__" = true)
 (e59 : mroIn K C_Past (.type "object") = some true)
 (e60 : mroIn K C_Past (.type "BaseException") = some true)
 (e61 : instIn K (.ref C_Past) (.type "tuple") = some false)
 (e62 : subIn K (.ref C_Past) (.type "BaseException") = some true)
 (e63 : findIn K (.ref C_Past) "__getattribute__" = some (some (.builtin "BaseException.__getattribute__")))
 (e64 : findIn K (.ref C_Past) "__getattr__" = some none)
 (e65 : findIn K (.ref C_Past) "__class__" = some (some (.builtin "object.__class__")))
 (e66 : typeIn K (.ref C_Past) = some (.type "type"))
 (e67 : subIn K (.ref C_Past) (.type "ValueError") = some true)
 (e68 : nsIn K mainGlobals "NotThere" = some (some (.ref C_NotThere)))
 (e69 : excIn K C_NotThere [.type "ValueError", .type "Exception", .type "BaseException", .type "object"] "ValueError.__new__" = true)
 (e70 : mroIn K C_NotThere (.type "object") = some true)
 (e71 : mroIn K C_NotThere (.type "BaseException") = some true)
 (e72 : instIn K (.ref C_NotThere) (.type "tuple") = some false)
 (e73 : subIn K (.ref C_NotThere) (.type "BaseException") = some true)
 (e74 : findIn K (.ref C_NotThere) "__getattribute__" = some (some (.builtin "BaseException.__getattribute__")))
 (e75 : findIn K (.ref C_NotThere) "__getattr__" = some none)
 (e76 : findIn K (.ref C_NotThere) "__class__" = some (some (.builtin "object.__class__")))
 (e77 : typeIn K (.ref C_NotThere) = some (.type "type"))
 (e78 : subIn K (.ref C_NotThere) (.type "ValueError") = some true)
 (e79 : subIn K (.ref C_TickError) (.ref C_TickError) = some true)
 (e80 : subIn K (.ref C_TickError) (.ref C_BadWheels) = some false)
 (e81 : subIn K (.ref C_TickError) (.ref C_Past) = some false)
 (e82 : subIn K (.ref C_TickError) (.ref C_NotThere) = some false)
 (e83 : subIn K (.ref C_BadWheels) (.ref C_BadWheels) = some true)
 (e84 : subIn K (.ref C_BadWheels) (.ref C_TickError) = some true)
 (e85 : subIn K (.ref C_BadWheels) (.ref C_Past) = some false)
 (e86 : subIn K (.ref C_BadWheels) (.ref C_NotThere) = some false)
 (e87 : subIn K (.ref C_Past) (.ref C_Past) = some true)
 (e88 : subIn K (.ref C_Past) (.ref C_TickError) = some true)
 (e89 : subIn K (.ref C_Past) (.ref C_BadWheels) = some false)
 (e90 : subIn K (.ref C_Past) (.ref C_NotThere) = some false)
 (e91 : subIn K (.ref C_NotThere) (.ref C_NotThere) = some true)
 (e92 : subIn K (.ref C_NotThere) (.ref C_TickError) = some true)
 (e93 : subIn K (.ref C_NotThere) (.ref C_BadWheels) = some false)
 (e94 : subIn K (.ref C_NotThere) (.ref C_Past) = some false)
 (e95 : nsIn K mainGlobals "check_wheels" = some (some (.ref f0)))
 (e96 : K.lookup f0 = some ⟨o0, u0, .func (fnOf "check_wheels" "check_wheels" (Zt YA) (Zr YA) (Zd YA) .none k0 d0 p0 n0 c0 t0), l0⟩)
 (e97 : codeIn K c0 "check_wheels" = true)
 (e98 : keepIn K (.ref f0) = true)
 (e99 : nsIn K mainGlobals "slot_spans" = some (some (.ref f1)))
 (e100 : K.lookup f1 = some ⟨o1, u1, .func (fnOf "slot_spans" "slot_spans" (Zt YU) (Zr YU) (Zd YU) .none k1 d1 p1 n1 c1 t1), l1⟩)
 (e101 : codeIn K c1 "slot_spans" = true)
 (e102 : keepIn K (.ref f1) = true)
 (e103 : findIn K (.ref C_Wheels) "__init__" = some (some (.ref f2)))
 (e104 : isFn K (.ref f2) = true)
 (e105 : K.lookup f2 = some ⟨o2, u2, .func (fnOf "__init__" "Wheels.__init__" (Zt Yd) (Zr Yd) (Zd Yd) .none k2 d2 p2 n2 c2 t2), l2⟩)
 (e106 : codeIn K c2 "Wheels.__init__" = true)
 (e107 : keepIn K (.ref f2) = true)
 (e108 : makesIn K C_Wheels = true)
 (e109 : keepIn K (.ref C_Wheels) = true)
 (e110 : findIn K (.ref C_Wheels) "place" = some (some (.ref f3)))
 (e111 : isFn K (.ref f3) = true)
 (e112 : K.lookup f3 = some ⟨o3, u3, .func (fnOf "place" "Wheels.place" (Zt YB) (Zr YB) (Zd YB) .none k3 d3 p3 n3 c3 t3), l3⟩)
 (e113 : codeIn K c3 "Wheels.place" = true)
 (e114 : keepIn K (.ref f3) = true)
 (e115 : nsIn K mainGlobals "position" = some (some (.ref f4)))
 (e116 : K.lookup f4 = some ⟨o4, u4, .func (fnOf "position" "position" (Zt XG) (Zr XG) (Zd XG) .none k4 d4 p4 n4 c4 t4), l4⟩)
 (e117 : codeIn K c4 "position" = true)
 (e118 : keepIn K (.ref f4) = true)
 (e119 : findIn K (.ref C_Row) "__init__" = some (some (.ref f5)))
 (e120 : isFn K (.ref f5) = true)
 (e121 : K.lookup f5 = some ⟨o5, u5, .func (fnOf "__init__" "Row.__init__" (Zt YC) (Zr YC) (Zd YC) .none k5 d5 p5 n5 c5 t5), l5⟩)
 (e122 : codeIn K c5 "Row.__init__" = true)
 (e123 : keepIn K (.ref f5) = true)
 (e124 : makesIn K C_Row = true)
 (e125 : keepIn K (.ref C_Row) = true)
 (e126 : findIn K (.ref C_Row) "put" = some (some (.ref f6)))
 (e127 : isFn K (.ref f6) = true)
 (e128 : K.lookup f6 = some ⟨o6, u6, .func (fnOf "put" "Row.put" (Zt Vh) (Zr Vh) (Zd Vh) .none k6 d6 p6 n6 c6 t6), l6⟩)
 (e129 : codeIn K c6 "Row.put" = true)
 (e130 : keepIn K (.ref f6) = true)
 (e131 : findIn K (.ref C_Row) "take" = some (some (.ref f7)))
 (e132 : isFn K (.ref f7) = true)
 (e133 : K.lookup f7 = some ⟨o7, u7, .func (fnOf "take" "Row.take" (Zt XL) (Zr XL) (Zd XL) .none k7 d7 p7 n7 c7 t7), l7⟩)
 (e134 : codeIn K c7 "Row.take" = true)
 (e135 : keepIn K (.ref f7) = true)
 (e136 : findIn K (.ref C_Row) "take_slot" = some (some (.ref f8)))
 (e137 : isFn K (.ref f8) = true)
 (e138 : K.lookup f8 = some ⟨o8, u8, .func (fnOf "take_slot" "Row.take_slot" (Zt Yu) (Zr Yu) (Zd Yu) .none k8 d8 p8 n8 c8 t8), l8⟩)
 (e139 : codeIn K c8 "Row.take_slot" = true)
 (e140 : keepIn K (.ref f8) = true)
 (e141 : findIn K (.ref C_Row) "numbers_in" = some (some (.ref f9)))
 (e142 : isFn K (.ref f9) = true)
 (e143 : K.lookup f9 = some ⟨o9, u9, .func (fnOf "numbers_in" "Row.numbers_in" (Zt Ym) (Zr Ym) (Zd Ym) .none k9 d9 p9 n9 c9 t9), l9⟩)
 (e144 : codeIn K c9 "Row.numbers_in" = true)
 (e145 : keepIn K (.ref f9) = true)
 (e146 : findIn K (.ref C_Rack) "__init__" = some (some (.ref f10)))
 (e147 : isFn K (.ref f10) = true)
 (e148 : K.lookup f10 = some ⟨o10, u10, .func (fnOf "__init__" "Rack.__init__" (Zt Yv) (Zr Yv) (Zd Yv) .none k10 d10 p10 n10 c10 t10), l10⟩)
 (e149 : codeIn K c10 "Rack.__init__" = true)
 (e150 : keepIn K (.ref f10) = true)
 (e151 : makesIn K C_Rack = true)
 (e152 : keepIn K (.ref C_Rack) = true)
 (e153 : findIn K (.ref C_Rack) "row_of" = some (some (.ref f11)))
 (e154 : isFn K (.ref f11) = true)
 (e155 : K.lookup f11 = some ⟨o11, u11, .func (fnOf "row_of" "Rack.row_of" (Zt YN) (Zr YN) (Zd YN) .none k11 d11 p11 n11 c11 t11), l11⟩)
 (e156 : codeIn K c11 "Rack.row_of" = true)
 (e157 : keepIn K (.ref f11) = true)
 (e158 : findIn K (.ref C_Rack) "put" = some (some (.ref f12)))
 (e159 : isFn K (.ref f12) = true)
 (e160 : K.lookup f12 = some ⟨o12, u12, .func (fnOf "put" "Rack.put" (Zt XM) (Zr XM) (Zd XM) .none k12 d12 p12 n12 c12 t12), l12⟩)
 (e161 : codeIn K c12 "Rack.put" = true)
 (e162 : keepIn K (.ref f12) = true)
 (e163 : findIn K (.ref C_Rack) "take" = some (some (.ref f13)))
 (e164 : isFn K (.ref f13) = true)
 (e165 : K.lookup f13 = some ⟨o13, u13, .func (fnOf "take" "Rack.take" (Zt Xw) (Zr Xw) (Zd Xw) .none k13 d13 p13 n13 c13 t13), l13⟩)
 (e166 : codeIn K c13 "Rack.take" = true)
 (e167 : keepIn K (.ref f13) = true)
 (e168 : findIn K (.ref C_Rack) "numbers_at" = some (some (.ref f14)))
 (e169 : isFn K (.ref f14) = true)
 (e170 : K.lookup f14 = some ⟨o14, u14, .func (fnOf "numbers_at" "Rack.numbers_at" (Zt Yf) (Zr Yf) (Zd Yf) .none k14 d14 p14 n14 c14 t14), l14⟩)
 (e171 : codeIn K c14 "Rack.numbers_at" = true)
 (e172 : keepIn K (.ref f14) = true)
 (e173 : findIn K (.ref C_Rack) "first_row" = some (some (.ref f15)))
 (e174 : isFn K (.ref f15) = true)
 (e175 : K.lookup f15 = some ⟨o15, u15, .func (fnOf "first_row" "Rack.first_row" (Zt Yn) (Zr Yn) (Zd Yn) .none k15 d15 p15 n15 c15 t15), l15⟩)
 (e176 : codeIn K c15 "Rack.first_row" = true)
 (e177 : keepIn K (.ref f15) = true)
 (e178 : findIn K (.ref C_Rack) "first_start" = some (some (.ref f16)))
 (e179 : isFn K (.ref f16) = true)
 (e180 : K.lookup f16 = some ⟨o16, u16, .func (fnOf "first_start" "Rack.first_start" (Zt ZX) (Zr ZX) (Zd ZX) .none k16 d16 p16 n16 c16 t16), l16⟩)
 (e181 : codeIn K c16 "Rack.first_start" = true)
 (e182 : keepIn K (.ref f16) = true)
 (e183 : findIn K (.ref C_Rack) "take_first" = some (some (.ref f17)))
 (e184 : isFn K (.ref f17) = true)
 (e185 : K.lookup f17 = some ⟨o17, u17, .func (fnOf "take_first" "Rack.take_first" (Zt Ye) (Zr Ye) (Zd Ye) .none k17 d17 p17 n17 c17 t17), l17⟩)
 (e186 : codeIn K c17 "Rack.take_first" = true)
 (e187 : keepIn K (.ref f17) = true)
 (e188 : findIn K (.ref C_Book) "__init__" = some (some (.ref f18)))
 (e189 : isFn K (.ref f18) = true)
 (e190 : K.lookup f18 = some ⟨o18, u18, .func (fnOf "__init__" "Book.__init__" (Zt Yw) (Zr Yw) (Zd Yw) .none k18 d18 p18 n18 c18 t18), l18⟩)
 (e191 : codeIn K c18 "Book.__init__" = true)
 (e192 : keepIn K (.ref f18) = true)
 (e193 : makesIn K C_Book = true)
 (e194 : keepIn K (.ref C_Book) = true)
 (e195 : findIn K (.ref C_Book) "time" = some (some (.ref f19)))
 (e196 : isFn K (.ref f19) = true)
 (e197 : K.lookup f19 = some ⟨o19, u19, .func (fnOf "time" "Book.time" (Zt XV) (Zr XV) (Zd XV) .none k19 d19 p19 n19 c19 t19), l19⟩)
 (e198 : codeIn K c19 "Book.time" = true)
 (e199 : keepIn K (.ref f19) = true)
 (e200 : findIn K (.ref C_Book) "due" = some (some (.ref f20)))
 (e201 : isFn K (.ref f20) = true)
 (e202 : K.lookup f20 = some ⟨o20, u20, .func (fnOf "due" "Book.due" (Zt XO) (Zr XO) (Zd XO) .none k20 d20 p20 n20 c20 t20), l20⟩)
 (e203 : codeIn K c20 "Book.due" = true)
 (e204 : keepIn K (.ref f20) = true)
 (e205 : findIn K (.ref C_Book) "left" = some (some (.ref f21)))
 (e206 : isFn K (.ref f21) = true)
 (e207 : K.lookup f21 = some ⟨o21, u21, .func (fnOf "left" "Book.left" (Zt Xx) (Zr Xx) (Zd Xx) .none k21 d21 p21 n21 c21 t21), l21⟩)
 (e208 : codeIn K c21 "Book.left" = true)
 (e209 : keepIn K (.ref f21) = true)
 (e210 : findIn K (.ref C_Book) "where" = some (some (.ref f22)))
 (e211 : isFn K (.ref f22) = true)
 (e212 : K.lookup f22 = some ⟨o22, u22, .func (fnOf "where" "Book.where" (Zt Xb) (Zr Xb) (Zd Xb) .none k22 d22 p22 n22 c22 t22), l22⟩)
 (e213 : codeIn K c22 "Book.where" = true)
 (e214 : keepIn K (.ref f22) = true)
 (e215 : findIn K (.ref C_Book) "lying" = some (some (.ref f23)))
 (e216 : isFn K (.ref f23) = true)
 (e217 : K.lookup f23 = some ⟨o23, u23, .func (fnOf "lying" "Book.lying" (Zt Xc) (Zr Xc) (Zd Xc) .none k23 d23 p23 n23 c23 t23), l23⟩)
 (e218 : codeIn K c23 "Book.lying" = true)
 (e219 : keepIn K (.ref f23) = true)
 (e220 : nsIn K mainGlobals "check_tick" = some (some (.ref f24)))
 (e221 : K.lookup f24 = some ⟨o24, u24, .func (fnOf "check_tick" "check_tick" (Zt YW) (Zr YW) (Zd YW) .none k24 d24 p24 n24 c24 t24), l24⟩)
 (e222 : codeIn K c24 "check_tick" = true)
 (e223 : keepIn K (.ref f24) = true)
 (e224 : nsIn K mainGlobals "check_step" = some (some (.ref f25)))
 (e225 : K.lookup f25 = some ⟨o25, u25, .func (fnOf "check_step" "check_step" (Zt YX) (Zr YX) (Zd YX) .none k25 d25 p25 n25 c25 t25), l25⟩)
 (e226 : codeIn K c25 "check_step" = true)
 (e227 : keepIn K (.ref f25) = true)
 (e228 : nsIn K mainGlobals "check_stretch" = some (some (.ref f26)))
 (e229 : K.lookup f26 = some ⟨o26, u26, .func (fnOf "check_stretch" "check_stretch" (Zt Yt) (Zr Yt) (Zd Yt) .none k26 d26 p26 n26 c26 t26), l26⟩)
 (e230 : codeIn K c26 "check_stretch" = true)
 (e231 : keepIn K (.ref f26) = true)
 (e232 : nsIn K mainGlobals "start_waiting" = some (some (.ref f27)))
 (e233 : K.lookup f27 = some ⟨o27, u27, .func (fnOf "start_waiting" "start_waiting" (Zt Ys) (Zr Ys) (Zd Ys) .none k27 d27 p27 n27 c27 t27), l27⟩)
 (e234 : codeIn K c27 "start_waiting" = true)
 (e235 : keepIn K (.ref f27) = true)
 (e236 : nsIn K mainGlobals "stop_waiting" = some (some (.ref f28)))
 (e237 : K.lookup f28 = some ⟨o28, u28, .func (fnOf "stop_waiting" "stop_waiting" (Zt Yz) (Zr Yz) (Zd Yz) .none k28 d28 p28 n28 c28 t28), l28⟩)
 (e238 : codeIn K c28 "stop_waiting" = true)
 (e239 : keepIn K (.ref f28) = true)
 (e240 : nsIn K mainGlobals "forget" = some (some (.ref f29)))
 (e241 : K.lookup f29 = some ⟨o29, u29, .func (fnOf "forget" "forget" (Zt VD) (Zr VD) (Zd VD) .none k29 d29 p29 n29 c29 t29), l29⟩)
 (e242 : codeIn K c29 "forget" = true)
 (e243 : keepIn K (.ref f29) = true)
 (e244 : nsIn K mainGlobals "set_alarm" = some (some (.ref f30)))
 (e245 : K.lookup f30 = some ⟨o30, u30, .func (fnOf "set_alarm" "set_alarm" (Zt Xm) (Zr Xm) (Zd Xm) .none k30 d30 p30 n30 c30 t30), l30⟩)
 (e246 : codeIn K c30 "set_alarm" = true)
 (e247 : keepIn K (.ref f30) = true)
 (e248 : nsIn K mainGlobals "take_back" = some (some (.ref f31)))
 (e249 : K.lookup f31 = some ⟨o31, u31, .func (fnOf "take_back" "take_back" (Zt Xl) (Zr Xl) (Zd Xl) .none k31 d31 p31 n31 c31 t31), l31⟩)
 (e250 : codeIn K c31 "take_back" = true)
 (e251 : keepIn K (.ref f31) = true)
 (e252 : nsIn K mainGlobals "move" = some (some (.ref f32)))
 (e253 : K.lookup f32 = some ⟨o32, u32, .func (fnOf "move" "move" (Zt Ty) (Zr Ty) (Zd Ty) .none k32 d32 p32 n32 c32 t32), l32⟩)
 (e254 : codeIn K c32 "move" = true)
 (e255 : keepIn K (.ref f32) = true)
 (e256 : nsIn K mainGlobals "rest" = some (some (.ref f33)))
 (e257 : K.lookup f33 = some ⟨o33, u33, .func (fnOf "rest" "rest" (Zt Tx) (Zr Tx) (Zd Tx) .none k33 d33 p33 n33 c33 t33), l33⟩)
 (e258 : codeIn K c33 "rest" = true)
 (e259 : keepIn K (.ref f33) = true)
 (e260 : nsIn K mainGlobals "go_on" = some (some (.ref f34)))
 (e261 : K.lookup f34 = some ⟨o34, u34, .func (fnOf "go_on" "go_on" (Zt UB) (Zr UB) (Zd UB) .none k34 d34 p34 n34 c34 t34), l34⟩)
 (e262 : codeIn K c34 "go_on" = true)
 (e263 : keepIn K (.ref f34) = true)
 (e264 : nsIn K mainGlobals "ring" = some (some (.ref f35)))
 (e265 : K.lookup f35 = some ⟨o35, u35, .func (fnOf "ring" "ring" (Zt Tw) (Zr Tw) (Zd Tw) .none k35 d35 p35 n35 c35 t35), l35⟩)
 (e266 : codeIn K c35 "ring" = true)
 (e267 : keepIn K (.ref f35) = true)
 (e268 : nsIn K mainGlobals "turn_to" = some (some (.ref f36)))
 (e269 : K.lookup f36 = some ⟨o36, u36, .func (fnOf "turn_to" "turn_to" (Zt Vf) (Zr Vf) (Zd Vf) .none k36 d36 p36 n36 c36 t36), l36⟩)
 (e270 : codeIn K c36 "turn_to" = true)
 (e271 : keepIn K (.ref f36) = true)
 (e272 : nsIn K mainGlobals "pass_ticks" = some (some (.ref f37)))
 (e273 : K.lookup f37 = some ⟨o37, u37, .func (fnOf "pass_ticks" "pass_ticks" (Zt YV) (Zr YV) (Zd YV) .none k37 d37 p37 n37 c37 t37), l37⟩)
 (e274 : codeIn K c37 "pass_ticks" = true)
 (e275 : keepIn K (.ref f37) = true)
 (e276 : nsIn K mainGlobals "_law_cell" = some (some (.ref f38)))
 (e277 : K.lookup f38 = some ⟨o38, u38, .func (fnOf "_law_cell" "_law_cell" (Zt Xu) (Zr Xu) (Zd Xu) .none k38 d38 p38 n38 c38 t38), l38⟩)
 (e278 : codeIn K c38 "_law_cell" = true)
 (e279 : keepIn K (.ref f38) = true)
 (e280 : nsIn K mainGlobals "_law_mix" = some (some (.ref f39)))
 (e281 : K.lookup f39 = some ⟨o39, u39, .func (fnOf "_law_mix" "_law_mix" (Zt XJ) (Zr XJ) (Zd XJ) .none k39 d39 p39 n39 c39 t39), l39⟩)
 (e282 : codeIn K c39 "_law_mix" = true)
 (e283 : keepIn K (.ref f39) = true)
 (e284 : nsIn K mainGlobals "_law_new" = some (some (.ref f40)))
 (e285 : K.lookup f40 = some ⟨o40, u40, .func (fnOf "_law_new" "_law_new" (Zt XI) (Zr XI) (Zd XI) .none k40 d40 p40 n40 c40 t40), l40⟩)
 (e286 : codeIn K c40 "_law_new" = true)
 (e287 : keepIn K (.ref f40) = true)
 (e288 : nsIn K mainGlobals "_law_set" = some (some (.ref f41)))
 (e289 : K.lookup f41 = some ⟨o41, u41, .func (fnOf "_law_set" "_law_set" (Zt XH) (Zr XH) (Zd XH) .none k41 d41 p41 n41 c41 t41), l41⟩)
 (e290 : codeIn K c41 "_law_set" = true)
 (e291 : keepIn K (.ref f41) = true)
 (e292 : nsIn K mainGlobals "_law_move" = some (some (.ref f42)))
 (e293 : K.lookup f42 = some ⟨o42, u42, .func (fnOf "_law_move" "_law_move" (Zt Xq) (Zr Xq) (Zd Xq) .none k42 d42 p42 n42 c42 t42), l42⟩)
 (e294 : codeIn K c42 "_law_move" = true)
 (e295 : keepIn K (.ref f42) = true)
 (e296 : nsIn K mainGlobals "_law_back" = some (some (.ref f43)))
 (e297 : K.lookup f43 = some ⟨o43, u43, .func (fnOf "_law_back" "_law_back" (Zt Xv) (Zr Xv) (Zd Xv) .none k43 d43 p43 n43 c43 t43), l43⟩)
 (e298 : codeIn K c43 "_law_back" = true)
 (e299 : keepIn K (.ref f43) = true)
 (e300 : nsIn K mainGlobals "_law_rest" = some (some (.ref f44)))
 (e301 : K.lookup f44 = some ⟨o44, u44, .func (fnOf "_law_rest" "_law_rest" (Zt Xn) (Zr Xn) (Zd Xn) .none k44 d44 p44 n44 c44 t44), l44⟩)
 (e302 : codeIn K c44 "_law_rest" = true)
 (e303 : keepIn K (.ref f44) = true)
 (e304 : nsIn K mainGlobals "_law_on" = some (some (.ref f45)))
 (e305 : K.lookup f45 = some ⟨o45, u45, .func (fnOf "_law_on" "_law_on" (Zt Vg) (Zr Vg) (Zd Vg) .none k45 d45 p45 n45 c45 t45), l45⟩)
 (e306 : codeIn K c45 "_law_on" = true)
 (e307 : keepIn K (.ref f45) = true)
 (e308 : nsIn K mainGlobals "_law_pass" = some (some (.ref f46)))
 (e309 : K.lookup f46 = some ⟨o46, u46, .func (fnOf "_law_pass" "_law_pass" (Zt Xo) (Zr Xo) (Zd Xo) .none k46 d46 p46 n46 c46 t46), l46⟩)
 (e310 : codeIn K c46 "_law_pass" = true)
 (e311 : keepIn K (.ref f46) = true)
 (e312 : nsIn K mainGlobals "_law_wheels" = some (some (.ref f47)))
 (e313 : K.lookup f47 = some ⟨o47, u47, .func (fnOf "_law_wheels" "_law_wheels" (Zt YM) (Zr YM) (Zd YM) .none k47 d47 p47 n47 c47 t47), l47⟩)
 (e314 : codeIn K c47 "_law_wheels" = true)
 (e315 : keepIn K (.ref f47) = true)
 (e316 : nsIn K mainGlobals "_law_ticks" = some (some (.ref f48)))
 (e317 : K.lookup f48 = some ⟨o48, u48, .func (fnOf "_law_ticks" "_law_ticks" (Zt YZ) (Zr YZ) (Zd YZ) .none k48 d48 p48 n48 c48 t48), l48⟩)
 (e318 : codeIn K c48 "_law_ticks" = true)
 (e319 : keepIn K (.ref f48) = true)
 (e320 : nsIn K mainGlobals "_law_deed" = some (some (.ref f49)))
 (e321 : K.lookup f49 = some ⟨o49, u49, .func (fnOf "_law_deed" "_law_deed" (Zt Xt) (Zr Xt) (Zd Xt) .none k49 d49 p49 n49 c49 t49), l49⟩)
 (e322 : codeIn K c49 "_law_deed" = true)
 (e323 : keepIn K (.ref f49) = true)
 (e324 : nsIn K mainGlobals "_law_done" = some (some (.ref f50)))
 (e325 : K.lookup f50 = some ⟨o50, u50, .func (fnOf "_law_done" "_law_done" (Zt Xs) (Zr Xs) (Zd Xs) .none k50 d50 p50 n50 c50 t50), l50⟩)
 (e326 : codeIn K c50 "_law_done" = true)
 (e327 : keepIn K (.ref f50) = true)
 (e328 : nsIn K mainGlobals "_law_asked" = some (some (.ref f51)))
 (e329 : K.lookup f51 = some ⟨o51, u51, .func (fnOf "_law_asked" "_law_asked" (Zt Xa) (Zr Xa) (Zd Xa) .none k51 d51 p51 n51 c51 t51), l51⟩)
 (e330 : codeIn K c51 "_law_asked" = true)
 (e331 : keepIn K (.ref f51) = true)
 (e332 : nsIn K mainGlobals "_law_where" = some (some (.ref f52)))
 (e333 : K.lookup f52 = some ⟨o52, u52, .func (fnOf "_law_where" "_law_where" (Zt YY) (Zr YY) (Zd YY) .none k52 d52 p52 n52 c52 t52), l52⟩)
 (e334 : codeIn K c52 "_law_where" = true)
 (e335 : keepIn K (.ref f52) = true)
 (e336 : nsIn K mainGlobals "_law_lies" = some (some (.ref f53)))
 (e337 : K.lookup f53 = some ⟨o53, u53, .func (fnOf "_law_lies" "_law_lies" (Zt Xr) (Zr Xr) (Zd Xr) .none k53 d53 p53 n53 c53 t53), l53⟩)
 (e338 : codeIn K c53 "_law_lies" = true)
 (e339 : keepIn K (.ref f53) = true)
 (e340 : nsIn K mainGlobals "_law_none" = some (some (.ref f54)))
 (e341 : K.lookup f54 = some ⟨o54, u54, .func (fnOf "_law_none" "_law_none" (Zt Xp) (Zr Xp) (Zd Xp) .none k54 d54 p54 n54 c54 t54), l54⟩)
 (e342 : codeIn K c54 "_law_none" = true)
 (e343 : keepIn K (.ref f54) = true)
 (e344 : nsIn K mainGlobals "law" = some (some (.ref f55)))
 (e345 : K.lookup f55 = some ⟨o55, u55, .func (fnOf "law" "law" (Zt Rx) (Zr Rx) (Zd Rx) .none k55 d55 p55 n55 c55 t55), l55⟩)
 (e346 : codeIn K c55 "law" = true)
 (e347 : keepIn K (.ref f55) = true)
 (e348 : nsIn K mainGlobals "len" = some none)
 (e349 : nsIn K mainGlobals "range" = some none)
 (e350 : nsIn K mainGlobals "sorted" = some none)
 (e351 : nsIn K mainGlobals "min" = some none)
 (e352 : nsIn K mainGlobals "max" = some none)
 (e353 : nsIn K mainGlobals "sum" = some none)
 (e354 : nsIn K mainGlobals "all" = some none)
 (e355 : nsIn K mainGlobals "isinstance" = some none)
 (e356 : nsIn K mainGlobals "int" = some none)
 (e357 : nsIn K mainGlobals "bool" = some none)
 (e358 : nsIn K mainGlobals "tuple" = some none)
 (e359 : nsIn K mainGlobals "list" = some none)
 (e360 : nsIn K mainGlobals "ValueError" = some none)
 (e361 : nsIn K mainGlobals "enumerate" = some none)
 (e362 : nsIn K mainGlobals "FEWEST_SLOTS" = some (some (.int (2) t_FEWEST_SLOTS)))
 (e363 : nsIn K mainGlobals "MOST_SLOTS" = some (some (.int (64) t_MOST_SLOTS)))
 (e364 : nsIn K mainGlobals "FEWEST_LEVELS" = some (some (.int (1) t_FEWEST_LEVELS)))
 (e365 : nsIn K mainGlobals "MOST_LEVELS" = some (some (.int (6) t_MOST_LEVELS)))
   : ∃ a : Ad, Txt K mg a :=
 ⟨⟨f0, _, f1, _, f2, _, f3, _, f4, _, f5, _, f6, _, f7, _, f8, _, f9, _, f10, _, f11, _, f12, _, f13, _, f14, _, f15, _, f16, _, f17, _, f18, _, f19, _, f20, _, f21, _, f22, _, f23, _, f24, _, f25, _, f26, _, f27, _, f28, _, f29, _, f30, _, f31, _, f32, _, f33, _, f34, _, f35, _, f36, _, f37, _, f38, _, f39, _, f40, _, f41, _, f42, _, f43, _, f44, _, f45, _, f46, _, f47, _, f48, _, f49, _, f50, _, f51, _, f52, _, f53, _, f54, _, f55, _, C_Wheels, C_Row, C_Rack, C_Book, C_TickError, C_BadWheels, C_Past, C_NotThere, t_FEWEST_SLOTS, t_MOST_SLOTS, t_FEWEST_LEVELS, t_MOST_LEVELS⟩, ⟨mg_of X G e1, ⟨e2, e3, e4, e5⟩, e6, e7, mg_of X G e8, ⟨e9, e10, e11, e12⟩, e13, e14, e15, mg_of X G e16, ⟨e17, e18, e19, e20⟩, e21, e22, mg_of X G e23, ⟨e24, e25, e26, e27⟩, e28, e29, e30, e31, e32, e33, e34, mg_of X G e35, e36, ⟨e39, ZK e37, e40⟩, ⟨e41, e42, e43, e37, e38, ZK e37⟩, QD rfl e45, mg_of X G e46, e47, ⟨e50, ZK e48, e51⟩, ⟨e52, e53, e54, e48, e49, ZK e48⟩, QD rfl e56, mg_of X G e57, e58, ⟨e61, ZK e59, e62⟩, ⟨e63, e64, e65, e59, e60, ZK e59⟩, QD rfl e67, mg_of X G e68, e69, ⟨e72, ZK e70, e73⟩, ⟨e74, e75, e76, e70, e71, ZK e70⟩, QD rfl e78, e79, Ut, e80, XB e55 (ZK e48) e80 e79, e81, XB e66 (ZK e59) e81 e79, e82, XB e77 (ZK e70) e82 e79, e83, Ut, e84, Se e44 (ZK e37) e84, e85, XB e66 (ZK e59) e85 e83, e86, XB e77 (ZK e70) e86 e83, e87, Ut, e88, Se e44 (ZK e37) e88, e89, XB e55 (ZK e48) e89 e87, e90, XB e77 (ZK e70) e90 e87, e91, Ut, e92, Se e44 (ZK e37) e92, e93, XB e55 (ZK e48) e93 e91, e94, XB e66 (ZK e59) e94 e91, mg_of X G e95, Zj e96 e97 e98, e98, ((Zj (st := YA) e96 e97 e98).binds fun _ _ _ _ _ _ us hl => match us, hl with | [_, _], _ => rfl), mg_of X G e99, Zj e100 e101 e102, e102, ((Zj (st := YU) e100 e101 e102).binds fun _ _ _ _ _ _ us hl => match us, hl with | [_, _], _ => rfl), Zj e105 e106 e107, e107, ((Zj (st := Yd) e105 e106 e107).binds fun _ _ _ _ _ _ us hl => match us, hl with | [_, _, _], _ => rfl), ⟨e103, e104, e107⟩, ⟨e108, e103, e104, e109⟩, Zj e112 e113 e114, e114, ((Zj (st := YB) e112 e113 e114).binds fun _ _ _ _ _ _ us hl => match us, hl with | [_, _, _], _ => rfl), ⟨e110, e111, e114⟩, mg_of X G e115, Zj e116 e117 e118, e118, ((Zj (st := XG) e116 e117 e118).binds fun _ _ _ _ _ _ us hl => match us, hl with | [_, _], _ => rfl), Zj e121 e122 e123, e123, ((Zj (st := YC) e121 e122 e123).binds fun _ _ _ _ _ _ us hl => match us, hl with | [_, _], _ => rfl), ⟨e119, e120, e123⟩, ⟨e124, e119, e120, e125⟩, Zj e128 e129 e130, e130, ((Zj (st := Vh) e128 e129 e130).binds fun _ _ _ _ _ _ us hl => match us, hl with | [_, _, _], _ => rfl), ⟨e126, e127, e130⟩, Zj e133 e134 e135, e135, ((Zj (st := XL) e133 e134 e135).binds fun _ _ _ _ _ _ us hl => match us, hl with | [_, _, _], _ => rfl), ⟨e131, e132, e135⟩, Zj e138 e139 e140, e140, ((Zj (st := Yu) e138 e139 e140).binds fun _ _ _ _ _ _ us hl => match us, hl with | [_, _], _ => rfl), ⟨e136, e137, e140⟩, Zj e143 e144 e145, e145, ((Zj (st := Ym) e143 e144 e145).binds fun _ _ _ _ _ _ us hl => match us, hl with | [_, _], _ => rfl), ⟨e141, e142, e145⟩, Zj e148 e149 e150, e150, ((Zj (st := Yv) e148 e149 e150).binds fun _ _ _ _ _ _ us hl => match us, hl with | [_, _, _], _ => rfl), ⟨e146, e147, e150⟩, ⟨e151, e146, e147, e152⟩, Zj e155 e156 e157, e157, ((Zj (st := YN) e155 e156 e157).binds fun _ _ _ _ _ _ us hl => match us, hl with | [_, _, _], _ => rfl), ⟨e153, e154, e157⟩, Zj e160 e161 e162, e162, ((Zj (st := XM) e160 e161 e162).binds fun _ _ _ _ _ _ us hl => match us, hl with | [_, _, _, _], _ => rfl), ⟨e158, e159, e162⟩, Zj e165 e166 e167, e167, ((Zj (st := Xw) e165 e166 e167).binds fun _ _ _ _ _ _ us hl => match us, hl with | [_, _, _, _], _ => rfl), ⟨e163, e164, e167⟩, Zj e170 e171 e172, e172, ((Zj (st := Yf) e170 e171 e172).binds fun _ _ _ _ _ _ us hl => match us, hl with | [_, _, _, _], _ => rfl), ⟨e168, e169, e172⟩, Zj e175 e176 e177, e177, ((Zj (st := Yn) e175 e176 e177).binds fun _ _ _ _ _ _ us hl => match us, hl with | [_], _ => rfl), ⟨e173, e174, e177⟩, Zj e180 e181 e182, e182, ((Zj (st := ZX) e180 e181 e182).binds fun _ _ _ _ _ _ us hl => match us, hl with | [_], _ => rfl), ⟨e178, e179, e182⟩, Zj e185 e186 e187, e187, ((Zj (st := Ye) e185 e186 e187).binds fun _ _ _ _ _ _ us hl => match us, hl with | [_], _ => rfl), ⟨e183, e184, e187⟩, Zj e190 e191 e192, e192, ((Zj (st := Yw) e190 e191 e192).binds fun _ _ _ _ _ _ us hl => match us, hl with | [_, _, _], _ => rfl), ⟨e188, e189, e192⟩, ⟨e193, e188, e189, e194⟩, Zj e197 e198 e199, e199, ((Zj (st := XV) e197 e198 e199).binds fun _ _ _ _ _ _ us hl => match us, hl with | [_], _ => rfl), ⟨e195, e196, e199⟩, Zj e202 e203 e204, e204, ((Zj (st := XO) e202 e203 e204).binds fun _ _ _ _ _ _ us hl => match us, hl with | [_, _], _ => rfl), ⟨e200, e201, e204⟩, Zj e207 e208 e209, e209, ((Zj (st := Xx) e207 e208 e209).binds fun _ _ _ _ _ _ us hl => match us, hl with | [_, _], _ => rfl), ⟨e205, e206, e209⟩, Zj e212 e213 e214, e214, ((Zj (st := Xb) e212 e213 e214).binds fun _ _ _ _ _ _ us hl => match us, hl with | [_, _], _ => rfl), ⟨e210, e211, e214⟩, Zj e217 e218 e219, e219, ((Zj (st := Xc) e217 e218 e219).binds fun _ _ _ _ _ _ us hl => match us, hl with | [_, _, _], _ => rfl), ⟨e215, e216, e219⟩, mg_of X G e220, Zj e221 e222 e223, e223, ((Zj (st := YW) e221 e222 e223).binds fun _ _ _ _ _ _ us hl => match us, hl with | [_, _], _ => rfl), mg_of X G e224, Zj e225 e226 e227, e227, ((Zj (st := YX) e225 e226 e227).binds fun _ _ _ _ _ _ us hl => match us, hl with | [_], _ => rfl), mg_of X G e228, Zj e229 e230 e231, e231, ((Zj (st := Yt) e229 e230 e231).binds fun _ _ _ _ _ _ us hl => match us, hl with | [_], _ => rfl), mg_of X G e232, Zj e233 e234 e235, e235, ((Zj (st := Ys) e233 e234 e235).binds fun _ _ _ _ _ _ us hl => match us, hl with | [_, _, _], _ => rfl), mg_of X G e236, Zj e237 e238 e239, e239, ((Zj (st := Yz) e237 e238 e239).binds fun _ _ _ _ _ _ us hl => match us, hl with | [_, _], _ => rfl), mg_of X G e240, Zj e241 e242 e243, e243, ((Zj (st := VD) e241 e242 e243).binds fun _ _ _ _ _ _ us hl => match us, hl with | [_, _], _ => rfl), mg_of X G e244, Zj e245 e246 e247, e247, ((Zj (st := Xm) e245 e246 e247).binds fun _ _ _ _ _ _ us hl => match us, hl with | [_, _, _, _], _ => rfl), mg_of X G e248, Zj e249 e250 e251, e251, ((Zj (st := Xl) e249 e250 e251).binds fun _ _ _ _ _ _ us hl => match us, hl with | [_, _], _ => rfl), mg_of X G e252, Zj e253 e254 e255, e255, ((Zj (st := Ty) e253 e254 e255).binds fun _ _ _ _ _ _ us hl => match us, hl with | [_, _, _], _ => rfl), mg_of X G e256, Zj e257 e258 e259, e259, ((Zj (st := Tx) e257 e258 e259).binds fun _ _ _ _ _ _ us hl => match us, hl with | [_, _], _ => rfl), mg_of X G e260, Zj e261 e262 e263, e263, ((Zj (st := UB) e261 e262 e263).binds fun _ _ _ _ _ _ us hl => match us, hl with | [_, _], _ => rfl), mg_of X G e264, Zj e265 e266 e267, e267, ((Zj (st := Tw) e265 e266 e267).binds fun _ _ _ _ _ _ us hl => match us, hl with | [_, _], _ => rfl), mg_of X G e268, Zj e269 e270 e271, e271, ((Zj (st := Vf) e269 e270 e271).binds fun _ _ _ _ _ _ us hl => match us, hl with | [_, _], _ => rfl), mg_of X G e272, Zj e273 e274 e275, e275, ((Zj (st := YV) e273 e274 e275).binds fun _ _ _ _ _ _ us hl => match us, hl with | [_, _], _ => rfl), mg_of X G e276, Zj e277 e278 e279, e279, ((Zj (st := Xu) e277 e278 e279).binds fun _ _ _ _ _ _ us hl => match us, hl with | [_, _], _ => rfl), mg_of X G e280, Zj e281 e282 e283, e283, ((Zj (st := XJ) e281 e282 e283).binds fun _ _ _ _ _ _ us hl => match us, hl with | [_, _], _ => rfl), mg_of X G e284, Zj e285 e286 e287, e287, ((Zj (st := XI) e285 e286 e287).binds fun _ _ _ _ _ _ us hl => match us, hl with | [_, _], _ => rfl), mg_of X G e288, Zj e289 e290 e291, e291, ((Zj (st := XH) e289 e290 e291).binds fun _ _ _ _ _ _ us hl => match us, hl with | [_, _, _, _], _ => rfl), mg_of X G e292, Zj e293 e294 e295, e295, ((Zj (st := Xq) e293 e294 e295).binds fun _ _ _ _ _ _ us hl => match us, hl with | [_, _, _], _ => rfl), mg_of X G e296, Zj e297 e298 e299, e299, ((Zj (st := Xv) e297 e298 e299).binds fun _ _ _ _ _ _ us hl => match us, hl with | [_, _], _ => rfl), mg_of X G e300, Zj e301 e302 e303, e303, ((Zj (st := Xn) e301 e302 e303).binds fun _ _ _ _ _ _ us hl => match us, hl with | [_, _], _ => rfl), mg_of X G e304, Zj e305 e306 e307, e307, ((Zj (st := Vg) e305 e306 e307).binds fun _ _ _ _ _ _ us hl => match us, hl with | [_, _], _ => rfl), mg_of X G e308, Zj e309 e310 e311, e311, ((Zj (st := Xo) e309 e310 e311).binds fun _ _ _ _ _ _ us hl => match us, hl with | [_, _], _ => rfl), mg_of X G e312, Zj e313 e314 e315, e315, ((Zj (st := YM) e313 e314 e315).binds fun _ _ _ _ _ _ us hl => match us, hl with | [_, _], _ => rfl), mg_of X G e316, Zj e317 e318 e319, e319, ((Zj (st := YZ) e317 e318 e319).binds fun _ _ _ _ _ _ us hl => match us, hl with | [_, _, _], _ => rfl), mg_of X G e320, Zj e321 e322 e323, e323, ((Zj (st := Xt) e321 e322 e323).binds fun _ _ _ _ _ _ us hl => match us, hl with | [_, _, _], _ => rfl), mg_of X G e324, Zj e325 e326 e327, e327, ((Zj (st := Xs) e325 e326 e327).binds fun _ _ _ _ _ _ us hl => match us, hl with | [_, _], _ => rfl), mg_of X G e328, Zj e329 e330 e331, e331, ((Zj (st := Xa) e329 e330 e331).binds fun _ _ _ _ _ _ us hl => match us, hl with | [_, _], _ => rfl), mg_of X G e332, Zj e333 e334 e335, e335, ((Zj (st := YY) e333 e334 e335).binds fun _ _ _ _ _ _ us hl => match us, hl with | [_, _], _ => rfl), mg_of X G e336, Zj e337 e338 e339, e339, ((Zj (st := Xr) e337 e338 e339).binds fun _ _ _ _ _ _ us hl => match us, hl with | [_, _], _ => rfl), mg_of X G e340, Zj e341 e342 e343, e343, ((Zj (st := Xp) e341 e342 e343).binds fun _ _ _ _ _ _ us hl => match us, hl with | [_, _], _ => rfl), mg_of X G e344, Zj e345 e346 e347, e347, ((Zj (st := Rx) e345 e346 e347).binds fun _ _ _ _ _ _ us hl => match us, hl with | [_], _ => rfl), mg_none_of X G e348, mg_none_of X G e349, mg_none_of X G e350, mg_none_of X G e351, mg_none_of X G e352, mg_none_of X G e353, mg_none_of X G e354, mg_none_of X G e355, mg_none_of X G e356, mg_none_of X G e357, mg_none_of X G e358, mg_none_of X G e359, mg_none_of X G e360, mg_none_of X G e361, mg_of X G e362, mg_of X G e363, mg_of X G e364, mg_of X G e365⟩⟩
end Tk
end
section
namespace Tk
open PySem L2 Mir Rk Tb
open PyProof.Rows (boot_sorted boot_min boot_enumerate boot_isinstance boot_sum boot_max)
variable {P : Program} {w : World} {K : W.Frag} {mg : Str → Option Value} {base : Heap} {a : Ad}
abbrev clOf (a : Ad) : Cl := ⟨a.C_Row, a.C_Rack, a.C_Wheels, a.C_Book⟩
def spPos (K : W.Frag) : Sp := fun vs H Q _ => ∃ (l : Addr) (v : Int) (ns : List Int), vs = [.ref l, .int v] ∧ H l = some (.lst (ns.map V.int)) ∧ ns.Pairwise (· < ·) ∧ ns.length ≤ 1000 ∧ Q (.int (pos ns v)) H
theorem sc_position : FnScope ["rising", "value", "low", "high", "middle"] ["rising", "value"] (Zd XG) := Zw
theorem TK (T : Txt K mg a) : FnOk P w K mg base (CXe P w) 1 a.f_position a.fd_position ["rising", "value"] (spPos K) := by
 refine T.F_position.okN sc_position (fun vs H Q E h => ?_) (fun cdv A outer s H vs Q E hr h => ?_)
 · obtain ⟨l, v, ns, rfl, _⟩ := h
   rfl
 · obtain ⟨l, v, ns, rfl, hl, hs, hz, k⟩ := h
   refine ⟨_, (Zh (Zz (i := 2) sc_position.nd rfl (Or.inl rfl) Zf)
     (Zh (Zz (i := 3) sc_position.nd rfl (Or.inl rfl) (ZL XE rfl T.b_len boot_len (Za (pv 0) Ze)))
     (Zh (Sz PassesOwn.never (Zo Um (pv 2) (pv 3) (Zv _)) (Zh (Zz (i := 4) sc_position.nd rfl (Or.inl rfl) (Zp ZJ (Zp Yg (pv 2) (pv 3)) Zf))
     (Zg (ZI (Zo Um (ZD Yo (pv 0) (pv 4) (fun _ _ => rfl)) (pv 1) (Zv _)) (Zg (Zz (i := 2) sc_position.nd rfl (Or.inl rfl) (Zp Yg (pv 4) Zf))) (Zg (Zz (i := 3) sc_position.nd rfl (Or.inl rfl) (pv 4)))))))
     (Zg (Zq (pv 2)))))), ?_⟩
   refine ⟨_, rfl, l, _, rfl, .inl (SqL.of hl), ?_⟩
   refine ⟨fun m σ H1 => ∃ (lo hi : Nat) (x : Option V), σ = [some (.ref l), some (.int v), some (.int lo), some (.int hi), x] ∧ H1 = H ∧ lo ≤ pos ns v ∧ pos ns v ≤ hi ∧ hi ≤ ns.length ∧ m = hi - lo, ⟨_, 0, ns.length, none, ?_, rfl, Nat.zero_le _, pos_le _ _, Nat.le_refl _, rfl⟩, ?_⟩
   · rw [List.length_map]
     rfl
   · rintro m σ H1 ⟨lo, hi, x, rfl, rfl, h1, h2, h3, rfl⟩
     refine ⟨_, rfl, _, rfl, _, _, rfl, rfl, _, rfl, ?_⟩
     refine ite2 (fun c => ?_) (fun c => ?_)
     · have c' : lo < hi := by have := of_decide_eq_true c; omega
       have hm : ((lo : Int) + hi) / 2 = (((lo + hi) / 2 : Nat) : Int) := by omega
       obtain ⟨x0, hx⟩ : ∃ x0, ns[(lo + hi) / 2]? = some x0 := ⟨ns[(lo + hi) / 2]'(by omega), by simp⟩
       have hp := VF (v := v) hs _ _ hx
       refine ⟨fun σ' H' => ∃ (lo' hi' : Nat) (x' : Option V), σ' = [some (.ref l), some (.int v), some (.int lo'), some (.int hi'), x'] ∧ H' = H1 ∧ lo' ≤ pos ns v ∧ pos ns v ≤ hi' ∧ hi' ≤ ns.length ∧ hi' - lo' < hi - lo, fun σ' H' ⟨lo', hi', x', e1, e2, e3, e4, e5, e6⟩ => ⟨_, e6, lo', hi', x', e1, e2, e3, e4, e5, rfl⟩, ?_⟩
       refine ⟨_, rfl, _, rfl, _, _, rfl, rfl, _, _, rfl, rfl, ⟨by decide, by decide⟩, ?_⟩
       refine ⟨_, rfl, _, rfl, l, ns.map V.int, _, .int x0, rfl, rfl, SqL.of hl, ?_, ?_⟩
       · show atI (ns.map V.int) (((lo : Int) + hi) / 2) = _
         rw [hm]
         exact VA (by rw [List.getElem?_map, hx]; rfl)
       · refine ⟨_, rfl, _, _, rfl, rfl, _, rfl, ?_⟩
         refine ite2 (fun d => ?_) (fun d => ?_)
         · have d' : x0 < v := of_decide_eq_true d
           refine ⟨_, rfl, _, _, rfl, rfl, (lo + hi) / 2 + 1, hi, some (.int (((lo : Int) + hi) / 2)), ?_, rfl, by have := hp.mp d'; omega, h2, h3, by omega⟩
           show [some (V.ref l), some (V.int v), some (V.int (((lo : Int) + hi) / 2 + 1)), some (V.int hi), _] = _
           rw [hm]
           rfl
         · have d' : ¬ x0 < v := fun z => d (decide_eq_true z)
           refine ⟨_, rfl, lo, (lo + hi) / 2, some (.int (((lo : Int) + hi) / 2)), ?_, rfl, h1, by have := mt hp.mpr d'; omega, by omega, by omega⟩
           show [some (V.ref l), some (V.int v), some (V.int lo), some (V.int (((lo : Int) + hi) / 2)), some (V.int (((lo : Int) + hi) / 2))] = _
           rw [hm]
     · have c' : ¬ lo < hi := fun z => c (decide_eq_true (by omega))
       have e : lo = pos ns v := by omega
       refine ⟨_, rfl, ?_⟩
       rw [e]
       exact k
structure Sm (r : RowS) : Prop where
 sp : r.span < 2 ^ 200
 ri : r.rising.length ≤ 100
 fi : r.filled.length ≤ 100
 ns : ∀ s ns, get r.filled s = some ns → ns.length < 64
def Rv (c : Cl) : Sp := fun vs H Q _ => ∃ (p dx : Addr) (sp : Int), vs = [.ref p, .int sp] ∧ H p = some (.ins c.Row dx []) ∧ ∀ (df lr : Addr) (H' : Hp), H df = none → H lr = none → df ≠ lr →
 H' p = some (.ins c.Row dx (rowF sp df lr)) → H' df = some (.dK []) → H' lr = some (.lst []) → (∀ b o, H b = some o → b ≠ p → H' b = some o) → Q .non H'
theorem sc_Row_init : FnScope ["self", "span"] ["self", "span"] (Zd YC) := Zw
theorem ok_Row_init (T : Txt K mg a) : FnOk P w K mg base (CXe P w) 1 a.f_Row___init__ a.fd_Row___init__ ["self", "span"] (Rv (clOf a)) := by
 refine T.F_Row___init__.okN sc_Row_init (fun vs H Q E h => ?_) (fun cdv A outer s H vs Q E hr h => ?_)
 · obtain ⟨p, dx, sp, rfl, _⟩ := h
   rfl
 · obtain ⟨p, dx, sp, rfl, hp, k⟩ := h
   refine ⟨_, (Zh (YS (pv 0) (pv 1) rfl) (Zh (YS (pv 0) XA rfl) (Zg (YS (pv 0) (Yr Ze) rfl)))), ?_⟩
   refine ⟨_, rfl, _, rfl, p, _, dx, [], rfl, hp, T.cl_Row, T.n_Row_span, (by show 0 < 1000; decide), ?_⟩
   intro df hdf
   have npf : p ≠ df := fun z => by rw [← z, Zb] at hdf; cases hdf
   have hdf0 : H df = none := by rw [Zc npf.symm] at hdf; exact hdf
   refine ⟨_, rfl, p, _, dx, _, rfl, (by rw [Zc npf]; exact Zb), T.cl_Row, T.n_Row_filled, (by show 1 < 1000; decide), ?_⟩
   refine ⟨(by show 0 ≤ sizeLine; decide), fun lr hlr => ?_⟩
   have npl : p ≠ lr := fun z => by rw [← z, Zb] at hlr; cases hlr
   have nfl : df ≠ lr := fun z => by rw [← z, Zc npf.symm, Zb] at hlr; cases hlr
   have hlr0 : H lr = none := by rw [Zc npl.symm, Zc nfl.symm, Zc npl.symm] at hlr; exact hlr
   refine ⟨_, rfl, p, _, dx, _, rfl, (by rw [Zc npl]; exact Zb), T.cl_Row, T.n_Row_rising, (by show 2 < 1000; decide), ?_⟩
   refine k df lr _ hdf0 hlr0 nfl Zb ?_ ?_ fun b o e hb => ?_
   · rw [Zc npf.symm, Zc nfl, Zc npf.symm, Zb]
   · rw [Zc npl.symm, Zb]
   · have n1 : b ≠ lr := Zn e hlr0
     have n2 : b ≠ df := Zn e hdf0
     rw [Zc hb, Zc n1, Zc hb, Zc n2, Zc hb]
     exact e
def spRowPut (c : Cl) : Sp := fun vs H Q _ => ∃ (A : Adr) (sl : Sl) (H0 : Hp) (B : BkS) (i : Nat) (r : RowS) (g : Int → Option Int) (n t : Int), vs = [.ref (A.ad (.row i)), .int n, .int t] ∧ Bk c A sl H0 H B ∧ B.rows[i]? = some r ∧ RowOK r g ∧ Sm r ∧
 ∀ H' sl', Bk c A sl' H0 H' (ZS B i (UQ r n (t / r.span))) → Q .non H'
theorem sc_Row_put : FnScope ["self", "number", "tick", "slot"] ["self", "number", "tick"] (Zd Vh) := Zw
theorem Vl {n : Nat} (h : n ≤ 100) : n < sizeLine := Nat.lt_of_le_of_lt h (by decide)
theorem map_ins (l : List Int) (i : Nat) (v : Int) : (l.map V.int).take i ++ V.int v :: (l.map V.int).drop i = (Th l i v).map V.int := by
 unfold Th
 rw [List.map_append, List.map_cons, List.map_take, List.map_drop]
theorem ok_Row_put (T : Txt K mg a) : FnOk P w K mg base (CXe P w) 2 a.f_Row_put a.fd_Row_put ["self", "number", "tick"] (spRowPut (clOf a)) := by
 have G_position := TK (P := P) (w := w) (base := base) T
 refine T.F_Row_put.okN sc_Row_put (fun vs H Q E h => ?_) (fun cdv A' outer s H vs Q E hr h => ?_)
 · obtain ⟨A, sl, H0, B, i, r, g, n, t, rfl, _⟩ := h
   rfl
 · obtain ⟨A, sl, H0, B, i, r, g, n, t, rfl, b, hi, R, sm, k⟩ := h
   have hu := YL hr
   refine ⟨_, (Zh (Zz (i := 3) sc_Row_put.nd rfl (Or.inl rfl) (Zp ZJ (pv 2) (Zu (pv 0) rfl)))
     (Zh (ZI (VQ (Vi hu (pv 3) (Zu (pv 0) rfl))) (Zh (YI hu (Zu (pv 0) rfl) (pv 3) XA rfl)
     (Zg (ZG (VH F.plainAttrs_list F.slot_list_insert F.type_list_insert mt_insert (Zu (pv 0) rfl) (Za (ZA G_position (hr.mono (by decide)) rfl T.f_position T.kp_position T.B_position .nil ZE (Za (Zu (pv 0) rfl) (Za (pv 3) Ze))) (Za (pv 3) Ze)))))) Zy)
     (Zg (YI hu (Zs hu (Zu (pv 0) rfl) (pv 3) (fun _ _ => rfl)) (pv 1) UL rfl)))), ?_⟩
   refine ⟨_, rfl, _, rfl, _, _, _, _, _, rfl, b.row hi, T.cl_Row, T.n_Row_span, rfl, _, _, rfl, rfl, ⟨R.sp, sm.sp⟩, ?_⟩
   refine ⟨_, rfl, _, rfl, _, _, _, _, _, rfl, b.row hi, T.cl_Row, T.n_Row_filled, rfl, _, _, rfl, DGet.k (k := Sum.inl (t / r.span)) (b.filled hi), _, rfl, ?_⟩
   rw [UH]
   cases e : get r.filled (t / r.span) with
   | none =>
     refine iteT ?_
     intro d hd
     have bt := b.temp (o := .dK []) hd
     refine ⟨_, rfl, _, _, _, _, _, rfl, bt.row hi, T.cl_Row, T.n_Row_filled, rfl, _, rfl, _, _, rfl, DPut.k (k := Sum.inl (t / r.span)) (bt.filled hi) (by unfold Yp; rw [YG]; exact Vl sm.fi), ?_⟩
     have b1 := b.newSlot hi e hd
     have hi1 : (ZS B i { r with filled := put r.filled (t / r.span) [] }).rows[i]? = some { r with filled := put r.filled (t / r.span) [] } := Vm hi
     have hR1 := b1.rising hi1
     dsimp only at hR1
     refine ⟨_, rfl, _, _, _, _, _, rfl, b1.row hi1, T.cl_Row, T.n_Row_rising, rfl, .inl ⟨rfl, _, SqL.of hR1⟩, ?_⟩
     refine ⟨_, rfl, _, _, _, _, _, rfl, b1.row hi1, T.cl_Row, T.n_Row_rising, rfl, _, rfl, _, _, r.rising, rfl, hR1, R.srt, (by have := sm.ri; omega), ?_⟩
     refine ⟨_, rfl, _, _, _, _, rfl, rfl, hR1, (by omega), (by rw [List.length_map]; have := pos_le r.rising (t / r.span); omega), (by rw [List.length_map]; exact Vl sm.ri), ?_⟩
     have b2 := b1.wRising hi1 (Th r.rising (pos r.rising (t / r.span)) (t / r.span))
     rw [XT] at b2
     rw [show ((pos r.rising (t / r.span) : Nat) : Int).toNat = pos r.rising (t / r.span) from rfl, map_ins]
     have eS : Yj r (t / r.span) = ⟨r.span, put r.filled (t / r.span) [], Th r.rising (pos r.rising (t / r.span)) (t / r.span)⟩ := by unfold Yj; rw [e]; rfl
     have b2' := b2
     dsimp only at b2'
     rw [← eS] at b2'
     have hi2 : (ZS B i (Yj r (t / r.span))).rows[i]? = some (Yj r (t / r.span)) := Vm hi
     have hg : get (Yj r (t / r.span)).filled (t / r.span) = some [] := by rw [UP, if_pos rfl, e]; rfl
     have hlen : (Yj r (t / r.span)).filled.length ≤ 101 := by
       rw [eS]
       show (put r.filled (t / r.span) []).length ≤ 101
       have : (keys (put r.filled (t / r.span) [])).length = (keys r.filled ++ [t / r.span]).length := by rw [VU _ e]
       have f1 := sm.fi
       simp [keys] at this
       omega
     refine ⟨_, rfl, _, _, _, _, _, rfl, b2'.row hi2, T.cl_Row, T.n_Row_filled, rfl, _, rfl, _, _, rfl, b2'.getF hi2 hg, _, rfl, _, _, rfl, b2'.putS (n := n) hi2 hg (by decide), ?_⟩
     have b3 := b2'.wSlot hi2 hg (putN [] n)
     rw [XT] at b3
     refine k _ (XF sl i (t / r.span) d) ?_
     unfold UQ
     rw [hg]
     exact b3
   | some ns =>
     refine iteF ?_
     have eS : Yj r (t / r.span) = r := by unfold Yj; rw [e]; rfl
     refine ⟨_, rfl, _, _, _, _, _, rfl, b.row hi, T.cl_Row, T.n_Row_filled, rfl, _, rfl, _, _, rfl, b.getF hi e, _, rfl, _, _, rfl, b.putS (n := n) hi e (Vl (by have := sm.ns _ _ e; omega)), ?_⟩
     have b3 := b.wSlot hi e (putN ns n)
     refine k _ sl ?_
     unfold UQ
     rw [eS, e]
     exact b3
theorem RI {α β : Type} (f : α → β) : ∀ (l : List α) (i : Nat), (l.map f).eraseIdx i = (l.eraseIdx i).map f
 | [], _ => rfl
 | _ :: _, 0 => rfl
 | a :: r, i + 1 => by simp [RI f r i]
theorem seqIx {k n : Nat} (h : k < n) : seqIndex? (k : Int) n = some k := by
 unfold seqIndex?
 simp
 omega
def spTakeSlot (c : Cl) : Sp := fun vs H Q _ => ∃ (A : Adr) (sl : Sl) (H0 : Hp) (B : BkS) (i : Nat) (r : RowS) (s : Int) (ns : List Int), vs = [.ref (A.ad (.row i)), .int s] ∧ Bk c A sl H0 H B ∧ B.rows[i]? = some r ∧ r.rising.Pairwise (· < ·) ∧ s ∈ r.rising ∧ get r.filled s = some ns ∧ ns.Nodup ∧ Sm r ∧
 ∀ (H' : Hp) (l : Addr) (out : List Int), H0 l = none → Bk c A sl (upd H0 l (.lst (out.map V.int))) H' (ZS B i (Vs r s)) → out.Pairwise (· < ·) → (∀ x, x ∈ out ↔ x ∈ ns) → Q (.ref l) H'
theorem Tv : FnScope ["self", "slot"] ["self", "slot"] (Zd Yu) := Zw
theorem SF (ns : List Int) : numV ns = (ns.map fun n => (n, V.bl true)).map fun p => (Sum.inl p.1, p.2) := by
 unfold numV
 rw [List.map_map]
 rfl
theorem VI (T : Txt K mg a) : FnOk P w K mg base (CXe P w) 2 a.f_Row_take_slot a.fd_Row_take_slot ["self", "slot"] (spTakeSlot (clOf a)) := by
 have G_position := TK (P := P) (w := w) (base := base) T
 refine T.F_Row_take_slot.okN Tv (fun vs H Q E h => ?_) (fun cdv A' outer s H vs Q E hr h => ?_)
 · obtain ⟨A, sl, H0, B, i, r, x, ns, rfl, _⟩ := h
   rfl
 · obtain ⟨A, sl, H0, B, i, r, x, ns, rfl, b, hi, hs, hx, hg, hn, sm, k⟩ := h
   have hu := YL hr
   refine ⟨_, (Zh (ZG (VH F.plainAttrs_list F.slot_list_pop F.type_list_pop mt_popAt (Zu (pv 0) rfl) (Za (ZA G_position (hr.mono (by decide)) rfl T.f_position T.kp_position T.B_position .nil ZE (Za (Zu (pv 0) rfl) (Za (pv 1) Ze))) Ze)))
     (Zg (Zq (ZL (VY rfl) rfl T.b_sorted boot_sorted (Za (YK (Zu (pv 0) rfl) (pv 1) ⟨rfl, rfl, rfl, rfl⟩) Ze))))), ?_⟩
   have hR := b.rising hi
   refine ⟨_, rfl, _, _, _, _, _, rfl, b.row hi, T.cl_Row, T.n_Row_rising, rfl, .inl ⟨rfl, _, SqL.of hR⟩, ?_⟩
   refine ⟨_, rfl, _, _, _, _, _, rfl, b.row hi, T.cl_Row, T.n_Row_rising, rfl, _, rfl, _, _, r.rising, rfl, hR, hs, (by have := sm.ri; omega), ?_⟩
   have hp := at_pos hs hx
   have hpl : pos r.rising x < r.rising.length := (List.getElem?_eq_some_iff.mp hp).1
   have hri := sm.ri
   refine ⟨_, _, _, pos r.rising x, .int x, rfl, rfl, hR, (by omega), (by omega), seqIx (by rw [List.length_map]; exact hpl), (by rw [List.getElem?_map, hp]; rfl), ?_⟩
   have b1 := b.wRising hi (r.rising.eraseIdx (pos r.rising x))
   have hi1 : (ZS B i { r with rising := r.rising.eraseIdx (pos r.rising x) }).rows[i]? = some { r with rising := r.rising.eraseIdx (pos r.rising x) } := Vm hi
   rw [← RI] at b1
   have b2 := b1.dropSlot hi1 x
   rw [XT] at b2
   have hF1 := b1.filled hi1
   have hS1 := b1.slot hi1 hg
   have hne : sl i x ≠ A.ad (.filled i) := fun z => by
     have := b1.inj (.slot i x) (.filled i) _ _ (UI hi1 hg) (Vz hi1) z
     cases this
   refine ⟨_, rfl, _, _, _, _, _, rfl, b1.row hi1, T.cl_Row, T.n_Row_filled, rfl, _, rfl, .inl ⟨_, .inl hF1⟩, _, rfl, _, Sum.inl x, .ref (sl i x), hF1, rfl, (by rw [UH]; show (get r.filled x).map _ = _; rw [hg]; rfl), ?_⟩
   refine ⟨_, ns.map fun n => (n, V.bl true), rfl, (by rw [Zc hne, ← SF]; exact hS1), (by rw [List.length_map]; exact sm.ns _ _ hg), fun out hperm hsort l hl => ?_⟩
   have e2 : (ns.map fun n => (n, V.bl true)).map (·.1) = ns := by rw [List.map_map]; exact List.map_id _
   rw [e2] at hperm
   obtain ⟨h1, h2⟩ := Uc hperm hsort hn
   exact k _ l out (b2.same.free hl) (b2.out (.inl hl)) h1 h2
def spNumbersIn (c : Cl) : Sp := fun vs H Q _ => ∃ (A : Adr) (sl : Sl) (H0 : Hp) (B : BkS) (i : Nat) (r : RowS) (s : Int), vs = [.ref (A.ad (.row i)), .int s] ∧ Bk c A sl H0 H B ∧ B.rows[i]? = some r ∧ (∀ ns, get r.filled s = some ns → ns.Nodup) ∧ Sm r ∧
 ∀ (H' : Hp) (l : Addr) (out : List Int), H0 l = none → Bk c A sl (upd H0 l (.lst (out.map V.int))) H' B → out.Pairwise (· < ·) → (∀ x, x ∈ out ↔ ∃ ns, get r.filled s = some ns ∧ x ∈ ns) → Q (.ref l) H'
theorem Ta : FnScope ["self", "slot"] ["self", "slot"] (Zd Ym) := Zw
theorem Tf (T : Txt K mg a) : FnOk P w K mg base (CXe P w) 1 a.f_Row_numbers_in a.fd_Row_numbers_in ["self", "slot"] (spNumbersIn (clOf a)) := by
 refine T.F_Row_numbers_in.okN Ta (fun vs H Q E h => ?_) (fun cdv A' outer s H vs Q E hr h => ?_)
 · obtain ⟨A, sl, H0, B, i, r, x, rfl, _⟩ := h
   rfl
 · obtain ⟨A, sl, H0, B, i, r, x, rfl, b, hi, hn, sm, k⟩ := h
   have hu := YL hr
   refine ⟨_, (Zg (Zq (ZL (VY rfl) rfl T.b_sorted boot_sorted (Za (pe_dget2 hu (Zu (pv 0) rfl) (pv 1) XA ⟨rfl, rfl, rfl, rfl⟩) Ze)))), ?_⟩
   refine ⟨_, rfl, _, _, _, _, _, rfl, b.row hi, T.cl_Row, T.n_Row_filled, rfl, _, rfl, .inl ⟨_, .inl (b.filled hi)⟩, _, rfl, fun d hd => ?_⟩
   have b1 := b.temp (o := .dK []) hd
   refine ⟨_, DGet.k (k := Sum.inl x) (b1.filled hi), ?_⟩
   rw [UH]
   cases e : get r.filled x with
   | none =>
     refine ⟨d, [], rfl, Zb, (by decide), fun out hperm hsort l hl => ?_⟩
     have e2 : out = [] := by simpa using hperm
     subst e2
     exact k _ l [] (b1.same.free hl) (b1.out (.inl hl)) List.Pairwise.nil fun y => ⟨fun z => by simp at z, fun ⟨ns, z, _⟩ => by rw [e] at z; cases z⟩
   | some ns =>
     refine ⟨_, ns.map fun n => (n, V.bl true), rfl, (by rw [← SF]; exact b1.slot hi e), (by rw [List.length_map]; exact sm.ns _ _ e), fun out hperm hsort l hl => ?_⟩
     have e2 : (ns.map fun n => (n, V.bl true)).map (·.1) = ns := by rw [List.map_map]; exact List.map_id _
     rw [e2] at hperm
     obtain ⟨h1, h2⟩ := Uc hperm hsort (hn ns e)
     exact k _ l out (b1.same.free hl) (b1.out (.inl hl)) h1 fun y => by
       rw [h2 y]
       exact ⟨fun z => ⟨ns, e, z⟩, fun ⟨ms, z1, z2⟩ => by rw [e] at z1; cases z1; exact z2⟩
def ZT (S now due : Int) : Nat → List Int → Option (Int × Int)
 | _, [] => none
 | lvl, sp :: r => if now / (sp * S) = due / (sp * S) then some (lvl, due % (sp * S) / sp) else ZT S now due (lvl + 1) r
def ZC (S : Int) (n : Nat) : List Int := (List.range n).map fun i => S ^ i
def spPlace (c : Cl) : Sp := fun vs H Q _ => ∃ (wh tp dx : Addr) (S now due : Int) (sps : List Int), vs = [.ref wh, .int now, .int due] ∧ H wh = some (.ins c.Wheels dx (Xg S tp)) ∧ H tp = some (.tup (sps.map V.int)) ∧ 0 < S ∧ S < 2 ^ 64 ∧ (∀ x ∈ sps, 0 < x ∧ x < 2 ^ 100) ∧ sps.length ≤ 100 ∧
 (ZT S now due 0 sps = none → ∀ H', Same H H' → Q .non H') ∧ ∀ lvl slt, ZT S now due 0 sps = some (lvl, slt) → ∀ H' p, Same H H' → H p = none → H' p = some (.tup [.int lvl, .int slt]) → Q (.ref p) H'
theorem sc_Wheels_place : FnScope ["self", "now", "due", "level", "span", "whole"] ["self", "now", "due"] (Zd YB) := Zw
theorem SB {S now due : Int} {sps : List Int} {i : Nat} {x : Int} (h : sps[i]? = some x) : ZT S now due i (sps.drop i) = if now / (x * S) = due / (x * S) then some ((i : Int), due % (x * S) / x) else ZT S now due (i + 1) (sps.drop (i + 1)) := by
 have hi : i < sps.length := (List.getElem?_eq_some_iff.mp h).1
 have e : sps.drop i = x :: sps.drop (i + 1) := by
   rw [List.drop_eq_getElem_cons hi]
   congr 1
   exact (List.getElem?_eq_some_iff.mp h).2
 rw [e]
 rfl
theorem Ua (T : Txt K mg a) : FnOk P w K mg base (CXe P w) 1 a.f_Wheels_place a.fd_Wheels_place ["self", "now", "due"] (spPlace (clOf a)) := by
 refine T.F_Wheels_place.okN sc_Wheels_place (fun vs H Q E h => ?_) (fun cdv A' outer s H vs Q E hr h => ?_)
 · obtain ⟨wh, tp, dx, S, now, due, sps, rfl, _⟩ := h
   rfl
 · obtain ⟨wh, tp, dx, S, now, due, sps, rfl, hw, ht, hS, hS2, hx, hl, k0, k1⟩ := h
   have hu := YL hr
   refine ⟨_, (Zh (Vp PassesOwn.never rfl (pi_enumT rfl T.b_enumerate (Za (Zu (pv 0) rfl) Ze)) (Qj rfl (Xz (Yk (i := 3) sc_Wheels_place.nd rfl (Or.inl rfl)) (Xz (Yk (i := 4) sc_Wheels_place.nd rfl (Or.inl rfl)) Sc)))
       (Zh (Zz (i := 5) sc_Wheels_place.nd rfl (Or.inl rfl) (Zp Xj (pv 4) (Zu (pv 0) rfl)))
       (Zg (ZI (Zo Xy (Zp ZJ (pv 1) (pv 5)) (Zp ZJ (pv 2) (pv 5)) (Zv _)) (Zg (Zq (Yq (Za (pv 3) (Za (Zp ZJ (Zp Yc (pv 2) (pv 5)) (pv 4)) Ze))))) Zy))))
     (Zg (Zq ZO))), ?_⟩
   refine ⟨_, rfl, _, _, _, _, _, rfl, hw, T.cl_Wheels, T.n_Wheels_spans, rfl, _, rfl, ⟨_, SqT.of ht⟩, ?_⟩
   refine for_enumT (K := K) (a := tp) (xs := sps.map V.int) (fun i σ H2 => ∃ (x y z : Option V), σ = [some (.ref wh), some (.int now), some (.int due), x, y, z] ∧ Same H H2 ∧ ZT S now due 0 sps = ZT S now due i (sps.drop i)) ⟨_, _, _, rfl, Same.refl _, rfl⟩
     (fun i σ H2 _ ⟨_, _, _, _, s2, _⟩ => SqT.of (s2 _ _ ht)) ?_ ?_
   · rintro i v σ H2 p hv ⟨x, y, z, rfl, s2, hp⟩ hfree
     obtain ⟨sp, hsp, rfl⟩ : ∃ sp, sps[i]? = some sp ∧ v = V.int sp := by
       rw [List.getElem?_map] at hv
       cases e : sps[i]? with
       | none => rw [e] at hv; cases hv
       | some sp => rw [e] at hv; exact ⟨sp, rfl, (Option.some.inj hv).symm⟩
     obtain ⟨p1, p2⟩ := hx sp (List.mem_of_getElem? hsp)
     have s3 : Same H (upd H2 p (.tup [.int (i : Int), .int sp])) := s2.trans (Same.upd hfree)
     have m1 : 0 < sp * S := Int.mul_pos p1 hS
     have m2 : sp * S < 2 ^ 200 := by
       have : sp * S ≤ 2 ^ 100 * 2 ^ 64 := Int.mul_le_mul (Int.le_of_lt p2) (Int.le_of_lt hS2) (Int.le_of_lt hS) (by decide)
       have : (2 : Int) ^ 100 * 2 ^ 64 < 2 ^ 200 := by decide
       omega
     have p3 : sp < 2 ^ 200 := Int.lt_trans p2 (by decide)
     refine ⟨p, [.int (i : Int), .int sp], rfl, SqT.of Zb, rfl, _, _, rfl, _, _, rfl, rfl, ?_⟩
     refine ⟨_, rfl, _, rfl, _, _, _, _, _, rfl, s3 _ _ hw, T.cl_Wheels, T.n_Wheels_slots, rfl, _, _, rfl, rfl, .inr ⟨by omega, hS2⟩, ?_⟩
     refine ⟨_, rfl, _, rfl, _, _, rfl, rfl, ⟨m1, m2⟩, _, rfl, _, rfl, _, _, rfl, rfl, ⟨m1, m2⟩, rfl, _, rfl, ?_⟩
     have key := SB (S := S) (now := now) (due := due) hsp
     rw [← hp] at key
     refine ite2 (fun c => ?_) (fun c => ?_)
     · have c' : now / (sp * S) = due / (sp * S) := by have := of_decide_eq_true c; injection this
       rw [if_pos c'] at key
       refine ⟨_, rfl, _, rfl, _, rfl, _, _, rfl, rfl, m1, _, rfl, _, _, rfl, rfl, ⟨p1, p3⟩, (by show 2 ≤ sizeLine; decide), fun q hq => ?_⟩
       exact k1 _ _ key _ q (s3.trans (Same.upd hq)) (s3.free hq) Zb
     · have c' : ¬ now / (sp * S) = due / (sp * S) := fun z => c (decide_eq_true (congrArg V.int z))
       rw [if_neg c'] at key
       exact ⟨_, _, _, rfl, s3, key⟩
   · rintro σ H2 ⟨x, y, z, rfl, s2, hp⟩
     refine k0 ?_ H2 s2
     rw [hp, List.length_map, List.drop_length]
     rfl
end Tk
end
section
namespace Tb
open PySem L2 Mir Rk
theorem Bk.up {c : Cl} {A : Adr} {sl : Sl} {H0 H H' : Hp} {B : BkS} (b : Bk c A sl H0 H B) (s : Same H H') : Bk c A sl H0 H' B := ⟨b.same.trans s, b.free, fun l o h => s _ _ (b.here l o h), b.inj⟩
end Tb
namespace Tk
open PySem L2 Mir Rk Tb
open PyProof.Rows (boot_sorted boot_min boot_enumerate boot_isinstance)
structure Geo (S : Int) (n : Nat) (B : BkS) : Prop where
 lo : 2 ≤ S
 hi : S ≤ 64
 n1 : 1 ≤ n
 n6 : n ≤ 6
 slots : B.slots = S
 spans : B.spans = ZC S n
 len : B.rows.length = n + 1
theorem Sq (S now due : Int) : ∀ (n i : Nat), ZT S now due i ((List.range n).map fun j => S ^ (i + j)) =
   if levFrom S now due n i < i + n then some ((levFrom S now due n i : Int), due % S ^ (levFrom S now due n i + 1) / S ^ levFrom S now due n i) else none
 | 0, i => by simp [ZT, levFrom]
 | n + 1, i => by
   have e : (List.range (n + 1)).map (fun j => S ^ (i + j)) = S ^ i :: (List.range n).map fun j => S ^ (i + 1 + j) := by
     rw [List.range_succ_eq_map, List.map_cons, List.map_map]
     congr 1
     apply List.map_congr_left
     intro j _
     show S ^ (i + (j + 1)) = _
     congr 1
     omega
   have p : S ^ i * S = S ^ (i + 1) := (Int.pow_succ S i).symm
   rw [e, ZT, p, Sq S now due n (i + 1), levFrom]
   by_cases h : now / S ^ (i + 1) = due / S ^ (i + 1)
   · rw [if_pos h, if_pos h, if_pos (by omega)]
   · rw [if_neg h, if_neg h, show i + 1 + n = i + (n + 1) by omega]
theorem Ug (S now due : Int) (n : Nat) : ZT S now due 0 (ZC S n) = if lv S n now due < n then some ((lv S n now due : Int), due % S ^ (lv S n now due + 1) / S ^ lv S n now due) else none := by
 have := Sq S now due n 0
 rw [Nat.zero_add] at this
 rw [show ZC S n = (List.range n).map fun j => S ^ (0 + j) from by unfold ZC; congr 1; funext j; rw [Nat.zero_add]]
 exact this
theorem pow_le64 {S : Int} (h1 : 0 ≤ S) (h2 : S ≤ 64) : ∀ i : Nat, 0 ≤ S ^ i ∧ S ^ i ≤ 64 ^ i
 | 0 => by simp
 | i + 1 => by
   obtain ⟨a, b⟩ := pow_le64 h1 h2 i
   rw [Int.pow_succ, Int.pow_succ]
   exact ⟨Int.mul_nonneg a h1, Int.mul_le_mul b h2 h1 (Int.le_trans a b)⟩
theorem pow_64 {i : Nat} (h : i ≤ 7) : (64 : Int) ^ i ≤ 64 ^ 7 := (by decide : ∀ i : Fin 8, (64 : Int) ^ (i : Nat) ≤ 64 ^ 7) ⟨i, by omega⟩
theorem XR {S : Int} (h1 : 2 ≤ S) (h2 : S ≤ 64) {i : Nat} (hi : i ≤ 7) : 0 < S ^ i ∧ S ^ i ≤ 64 ^ 7 := by
 refine ⟨Int.pow_pos (by omega), ?_⟩
 exact Int.le_trans (pow_le64 (by omega) h2 i).2 (pow_64 hi)
section
variable {S : Int} {n : Nat} {now : Int} {rows : List RowS} {f : Int → Option Int} {B : BkS}
theorem Geo.pow (G : Geo S n B) {i : Nat} (hi : i ≤ 7) : 0 < S ^ i ∧ S ^ i ≤ 64 ^ 7 := XR G.lo G.hi hi
theorem Geo.span (G : Geo S n B) {x : Int} (h : x ∈ B.spans) : 0 < x ∧ x < 2 ^ 100 := by
 rw [G.spans] at h
 obtain ⟨i, hi, rfl⟩ := List.mem_map.mp h
 have hn := G.n6
 have := List.mem_range.mp hi
 obtain ⟨a, b⟩ := G.pow (i := i) (by omega)
 exact ⟨a, Int.lt_of_le_of_lt b (by decide)⟩
theorem RackOK.sm (R : RackOK S n now rows f) (h64 : S ≤ 64) (h6 : n ≤ 6) {i : Nat} {r : RowS} (h : rows[i]? = some r) : Sm r := by
 have hl := (List.getElem?_eq_some_iff.mp h).1
 have := R.len
 obtain ⟨a, b⟩ := XR R.hS h64 (i := i) (by omega)
 obtain ⟨c1, c2, c3⟩ := row_small (R.row i r h) (N := 63) fun k t e => R.dom k t (fil_some.mp e).1
 refine ⟨?_, by omega, by omega, fun s ns e => by have := c3 s ns e; omega⟩
 rw [R.span i r h]
 exact Int.lt_of_le_of_lt b (by decide)
end
section
variable {P : Program} {w : World} {K : W.Frag} {mg : Str → Option Value} {base : Heap} {a : Ad}
def spRowOf (c : Cl) : Sp := fun vs H Q _ => ∃ (A : Adr) (sl : Sl) (H0 : Hp) (B : BkS) (S : Int) (n : Nat) (now t : Int), vs = [.ref (A.ad .rack), .int now, .int t] ∧ Bk c A sl H0 H B ∧ Geo S n B ∧ ∀ H', Same H H' → Q (.ref (A.ad (.row (lv S n now t)))) H'
theorem sc_Rack_row_of : FnScope ["self", "now", "tick", "place"] ["self", "now", "tick"] (Zd YN) := Zw
theorem Qh {c : Cl} {A : Adr} {sl : Sl} {H0 H : Hp} {B : BkS} (b : Bk c A sl H0 H B) {i : Nat} (h : i < B.rows.length) : atI ((List.range B.rows.length).map fun i => V.ref (A.ad (.row i))) (i : Int) = some (V.ref (A.ad (.row i))) := by
 refine VA ?_
 rw [List.getElem?_map, List.getElem?_range h]
 rfl
theorem Uo (T : Txt K mg a) : FnOk P w K mg base (CXe P w) 2 a.f_Rack_row_of a.fd_Rack_row_of ["self", "now", "tick"] (spRowOf (clOf a)) := by
 have G_Wheels_place := Ua (P := P) (w := w) (base := base) T
 refine T.F_Rack_row_of.okN sc_Rack_row_of (fun vs H Q E h => ?_) (fun cdv A' outer s H vs Q E hr h => ?_)
 · obtain ⟨A, sl, H0, B, S, n, now, t, rfl, _⟩ := h
   rfl
 · obtain ⟨A, sl, H0, B, S, n, now, t, rfl, b, G, k⟩ := h
   refine ⟨_, (Zh (Zz (i := 3) sc_Rack_row_of.nd rfl (Or.inl rfl) (ZU (Zu (pv 0) rfl) T.cl_Wheels T.m_Wheels_place G_Wheels_place (hr.mono (by decide)) T.B_Wheels_place .nil ZE (Za (pv 1) (Za (pv 2) Ze))))
     (Zh (ZI (Zo XZ (pv 3) ZO (Zv _)) (Zg (Zq (ZD Yo (Zu (pv 0) rfl) (Zp XY (ZL XE rfl T.b_len boot_len (Za (Zu (pv 0) rfl) Ze)) Zf) (fun _ _ => rfl)))) Zy)
     (Zg (Zq (ZD Yo (Zu (pv 0) rfl) (ZD ZF (pv 3) Zf (fun _ _ => rfl)) (fun _ _ => rfl)))))), ?_⟩
   refine ⟨_, rfl, _, _, _, _, _, rfl, b.rack, T.cl_Rack, T.n_Rack_wheels, rfl, _, _, _, rfl, b.wheels, rfl, _, rfl, _, rfl, ?_⟩
   have hpl := Ug S now t n
   have hln := G.len
   refine ⟨_, _, _, S, now, t, B.spans, rfl, (by rw [← G.slots]; exact b.wheels), b.spans, (by have := G.lo; omega), (by have := G.hi; omega), fun x hx => G.span hx, (by rw [G.spans]; unfold ZC; rw [List.length_map, List.length_range]; have := G.n6; omega), fun h H1 s1 => ?_, fun lvl slt h H1 p s1 hp0 hp => ?_⟩
   · rw [G.spans, hpl] at h
     have hlt : ¬ lv S n now t < n := fun z => by rw [if_pos z] at h; cases h
     have heq : lv S n now t = n := by have := TL S n now t; omega
     have b1 := b.up s1
     refine ⟨_, rfl, rfl, _, rfl, iteT ?_⟩
     refine ⟨_, rfl, _, _, _, _, _, rfl, b1.rack, T.cl_Rack, T.n_Rack_rows, rfl, _, rfl, _, _, _, _, _, rfl, b1.rack, T.cl_Rack, T.n_Rack_rows, rfl, _, _, rfl, .inl (SqL.of b1.rows), _, _, rfl, rfl, _, _, _, _, rfl, rfl, SqL.of b1.rows, ?_, k H1 s1⟩
     rw [List.length_map, List.length_range, show ((B.rows.length : Int) - 1) = ((lv S n now t : Nat) : Int) by omega]
     exact Qh b1 (by omega)
   · rw [G.spans, hpl] at h
     have hlt : lv S n now t < n := Nat.lt_of_not_le fun z => by rw [if_neg (by omega)] at h; cases h
     rw [if_pos hlt] at h
     have b1 := b.up s1
     refine ⟨_, rfl, rfl, _, rfl, iteF ?_⟩
     refine ⟨_, rfl, _, _, _, _, _, rfl, b1.rack, T.cl_Rack, T.n_Rack_rows, rfl, _, rfl, _, _, _, .int lvl, rfl, rfl, SqT.of hp, rfl, _, _, _, _, rfl, rfl, SqL.of b1.rows, ?_, k H1 s1⟩
     injection h with h
     injection h with h1 h2
     rw [← h1]
     exact Qh b1 (by omega)
def spRackPut (c : Cl) : Sp := fun vs H Q _ => ∃ (A : Adr) (sl : Sl) (H0 : Hp) (B : BkS) (S : Int) (n : Nat) (now k t : Int) (f : Int → Option Int), vs = [.ref (A.ad .rack), .int now, .int k, .int t] ∧ Bk c A sl H0 H B ∧ Geo S n B ∧ RackOK S n now B.rows f ∧ f k = none ∧ now < t ∧ 0 ≤ k ∧ k < 63 ∧
 ∀ (H' : Hp) (sl' : Sl) (rows' : List RowS), Bk c A sl' H0 H' { B with rows := rows' } → rows'.length = B.rows.length → RackOK S n now rows' (gput f k (some t)) → Q .non H'
theorem sc_Rack_put : FnScope ["self", "now", "number", "tick"] ["self", "now", "number", "tick"] (Zd XM) := Zw
theorem ok_Rack_put (T : Txt K mg a) : FnOk P w K mg base (CXe P w) 3 a.f_Rack_put a.fd_Rack_put ["self", "now", "number", "tick"] (spRackPut (clOf a)) := by
 have G_Rack_row_of := Uo (P := P) (w := w) (base := base) T
 have G_Row_put := ok_Row_put (P := P) (w := w) (base := base) T
 refine T.F_Rack_put.okN sc_Rack_put (fun vs H Q E h => ?_) (fun cdv A' outer s H vs Q E hr h => ?_)
 · obtain ⟨A, sl, H0, B, S, n, now, k, t, f, rfl, _⟩ := h
   rfl
 · obtain ⟨A, sl, H0, B, S, n, now, k, t, f, rfl, b, G, R, hk, ht, hd1, hd2, kk⟩ := h
   refine ⟨_, (Zg (ZG (ZU (ZU (pv 0) T.cl_Rack T.m_Rack_row_of G_Rack_row_of (hr.mono (by decide)) T.B_Rack_row_of .nil ZE (Za (pv 1) (Za (pv 3) Ze))) T.cl_Row T.m_Row_put G_Row_put (hr.mono (by decide)) T.B_Row_put .nil ZE (Za (pv 2) (Za (pv 3) Ze))))), ?_⟩
   refine ⟨_, rfl, _, _, _, rfl, b.rack, rfl, _, rfl, _, rfl, A, sl, H0, B, S, n, now, t, rfl, b, G, fun H1 s1 => ?_⟩
   have b1 := b.up s1
   obtain ⟨r, hi⟩ := R.at (TL S n now t)
   refine ⟨_, _, _, rfl, b1.row hi, rfl, _, rfl, _, rfl, A, sl, H0, B, _, r, _, k, t, rfl, b1, hi, R.row _ _ hi, RackOK.sm R G.hi G.n6 hi, fun H2 sl2 b2 => ?_⟩
   exact kk H2 sl2 _ b2 (List.length_set ..) (R.put hk ht ⟨hd1, hd2⟩ hi)
end
end Tk
end
section
namespace Tk
open PySem L2 Mir Rk Tb
open PyProof.Rows (boot_sorted boot_min boot_enumerate boot_isinstance boot_sum boot_max)
variable {P : Program} {w : World} {K : W.Frag} {mg : Str → Option Value} {base : Heap} {a : Ad}
structure IsMin (S : Int) (n : Nat) (now : Int) (f : Int → Option Int) (m : Int) : Prop where
 one : ∃ k t, f k = some t ∧ st S n now t = m
 least : ∀ k t, f k = some t → m ≤ st S n now t
theorem IsMin.uniq {S : Int} {n : Nat} {now : Int} {f : Int → Option Int} {m m' : Int} (h : IsMin S n now f m) (h' : IsMin S n now f m') : m = m' := by
 obtain ⟨k, t, e, z⟩ := h.one
 obtain ⟨k', t', e', z'⟩ := h'.one
 have := h.least k' t' e'
 have := h'.least k t e
 omega
theorem First.isMin {S : Int} {n : Nat} {now : Int} {f : Int → Option Int} {L : Nat} {s : Int} (h : First S n now f L s) : IsMin S n now f (s * S ^ L) := by
 obtain ⟨k, t, e, l, d⟩ := h.one
 exact ⟨⟨k, t, e, by unfold st; rw [l, d]⟩, h.least⟩
def spFirstRow (c : Cl) : Sp := fun vs H Q _ => ∃ (A : Adr) (sl : Sl) (H0 : Hp) (B : BkS), vs = [.ref (A.ad .rack)] ∧ Bk c A sl H0 H B ∧ ((∀ (i : Nat) r, B.rows[i]? = some r → r.rising = []) → Q .non H) ∧
 ∀ (L : Nat) r x, B.rows[L]? = some r → r.rising[0]? = some x → (∀ (i : Nat) r', i < L → B.rows[i]? = some r' → r'.rising = []) → Q (.ref (A.ad (.row L))) H
theorem sc_Rack_first_row : FnScope ["self", "row"] ["self"] (Zd Yn) := Zw
theorem Vy (T : Txt K mg a) : FnOk P w K mg base (CXe P w) 1 a.f_Rack_first_row a.fd_Rack_first_row ["self"] (spFirstRow (clOf a)) := by
 refine T.F_Rack_first_row.okN sc_Rack_first_row (fun vs H Q E h => ?_) (fun cdv A' outer s H vs Q E hr h => ?_)
 · obtain ⟨A, sl, H0, B, rfl, _⟩ := h
   rfl
 · obtain ⟨A, sl, H0, B, rfl, b, k0, k1⟩ := h
   refine ⟨_, (Zh (Vp PassesOwn.never rfl (Sa (Zu (pv 0) rfl)) (Yk (i := 1) sc_Rack_first_row.nd rfl (Or.inl rfl)) (Zg (ZI (Zo op_gt (ZL XE rfl T.b_len boot_len (Za (Zu (pv 1) rfl) Ze)) Zf (Zv _)) (Zg (Zq (pv 1))) Zy)))
     (Zg (Zq ZO))), ?_⟩
   refine ⟨_, rfl, _, _, _, _, _, rfl, b.rack, T.cl_Rack, T.n_Rack_rows, rfl, _, rfl, ⟨_, SqL.of b.rows⟩, ?_⟩
   refine SN (K := K) (a := A.ad .rows) (xs := (List.range B.rows.length).map fun i => V.ref (A.ad (.row i))) (fun i σ H2 => ∃ x, σ = [some (.ref (A.ad .rack)), x] ∧ H2 = H ∧ ∀ (j : Nat) r, j < i → B.rows[j]? = some r → r.rising = [])
     ⟨_, rfl, rfl, fun j r z => by omega⟩ (fun i σ H2 _ ⟨_, _, e, _⟩ => by rw [e]; exact SqL.of b.rows) ?_ ?_
   · rintro i v σ H2 hv ⟨x, rfl, rfl, hlow⟩
     have hil : i < B.rows.length := by have := (List.getElem?_eq_some_iff.mp hv).1; simpa using this
     have ev : v = V.ref (A.ad (.row i)) := by
       rw [List.getElem?_map, List.getElem?_range hil] at hv
       exact (Option.some.inj hv).symm
     subst ev
     obtain ⟨r, hi⟩ : ∃ r, B.rows[i]? = some r := ⟨B.rows[i], by simp [hil]⟩
     refine ⟨_, rfl, _, _, _, _, _, rfl, b.row hi, T.cl_Row, T.n_Row_rising, rfl, _, _, rfl, .inl (SqL.of (b.rising hi)), _, _, rfl, rfl, _, rfl, ?_⟩
     rw [List.length_map]
     refine ite2 (fun c => ?_) (fun c => ?_)
     · have c' : 0 < r.rising.length := by have := of_decide_eq_true c; omega
       exact ⟨_, rfl, k1 i r r.rising[0] hi (by simp [c']) fun j r' hj e => hlow j r' hj e⟩
     · have c0 : ¬ (0 : Int) < (r.rising.length : Int) := fun z => c (decide_eq_true z)
       have c' : r.rising = [] := List.length_eq_zero_iff.mp (by omega)
       refine ⟨_, rfl, rfl, fun j r' hj e => ?_⟩
       by_cases ej : j = i
       · subst ej
         rw [hi] at e
         cases e
         exact c'
       · exact hlow j r' (by omega) e
   · rintro σ H2 ⟨x, rfl, rfl, hlow⟩
     refine k0 fun i r e => hlow i r ?_ e
     rw [List.length_map, List.length_range]
     exact (List.getElem?_eq_some_iff.mp e).1
def Qa (c : Cl) : Sp := fun vs H Q _ => ∃ (A : Adr) (sl : Sl) (H0 : Hp) (B : BkS) (S : Int) (n : Nat) (now : Int) (f : Int → Option Int), vs = [.ref (A.ad .rack)] ∧ Bk c A sl H0 H B ∧ Geo S n B ∧ RackOK S n now B.rows f ∧ ((∀ k, f k = none) → Q .non H) ∧ ∀ m, IsMin S n now f m → Q (.int m) H
theorem sc_Rack_first_start : FnScope ["self", "row"] ["self"] (Zd ZX) := Zw
theorem UK (T : Txt K mg a) : FnOk P w K mg base (CXe P w) 2 a.f_Rack_first_start a.fd_Rack_first_start ["self"] (Qa (clOf a)) := by
 have G_Rack_first_row := Vy (P := P) (w := w) (base := base) T
 refine T.F_Rack_first_start.okN sc_Rack_first_start (fun vs H Q E h => ?_) (fun cdv A' outer s H vs Q E hr h => ?_)
 · obtain ⟨A, sl, H0, B, S, n, now, f, rfl, _⟩ := h
   rfl
 · obtain ⟨A, sl, H0, B, S, n, now, f, rfl, b, G, R, k0, k1⟩ := h
   refine ⟨_, (Zh (Zz (i := 1) sc_Rack_first_start.nd rfl (Or.inl rfl) (Uk (pv 0) T.cl_Rack T.m_Rack_first_row G_Rack_first_row (hr.mono (by decide)) T.B_Rack_first_row .nil ZE))
     (Zh (ZI (Zo XZ (pv 1) ZO (Zv _)) (Zg (Zq ZO)) Zy)
     (Zg (Zq (Zp Xj (ZD Yo (Zu (pv 1) rfl) Zf (fun _ _ => rfl)) (Zu (pv 1) rfl)))))), ?_⟩
   refine ⟨_, rfl, _, _, _, rfl, b.rack, rfl, A, sl, H0, B, rfl, b, fun h => ?_, fun L r x hi hx low => ?_⟩
   · refine ⟨_, rfl, rfl, _, rfl, iteT ?_⟩
     exact k0 (R.none_first h)
   · have hln := (List.getElem?_eq_some_iff.mp hi).1
     have hsp := R.span L r hi
     obtain ⟨p1, p2⟩ := G.pow (i := L) (by have := R.len; have := G.n6; omega)
     refine ⟨_, rfl, rfl, _, rfl, iteF ?_⟩
     refine ⟨_, rfl, _, _, _, _, _, rfl, b.row hi, T.cl_Row, T.n_Row_rising, rfl, _, _, _, .int x, rfl, rfl, SqL.of (b.rising hi), (by rw [show (0 : Int) = ((0 : Nat) : Int) from rfl]; exact VA (by rw [List.getElem?_map, hx]; rfl)), ?_⟩
     refine ⟨_, rfl, _, _, _, _, _, rfl, b.row hi, T.cl_Row, T.n_Row_span, rfl, _, _, rfl, rfl, .inr ⟨by rw [hsp]; omega, by rw [hsp]; exact Int.lt_of_le_of_lt p2 (by decide)⟩, ?_⟩
     rw [hsp]
     exact k1 _ (First.isMin (R.first hi hx low))
theorem first_has {S : Int} {n : Nat} {now : Int} {rows : List RowS} {f : Int → Option Int} (R : RackOK S n now rows f) {L : Nat} {r : RowS} {s : Int} (hi : rows[L]? = some r) (F : First S n now f L s) (x : Int) :
   (∃ ns, get r.filled s = some ns ∧ x ∈ ns) ↔ ∃ t, f x = some t ∧ st S n now t = s * S ^ L := by
 rw [(R.row L r hi).has x s, R.span L r hi]
 constructor
 · rintro ⟨t, h1, h2⟩
   obtain ⟨a, b⟩ := fil_some.mp h1
   exact ⟨t, a, (F.just x t a).mpr ⟨b, h2⟩⟩
 · rintro ⟨t, h1, h2⟩
   obtain ⟨a, b⟩ := (F.just x t h1).mp h2
   exact ⟨t, fil_some.mpr ⟨h1, a⟩, b⟩
def spTakeFirst (c : Cl) : Sp := fun vs H Q _ => ∃ (A : Adr) (sl : Sl) (H0 : Hp) (B : BkS) (S : Int) (n : Nat) (now : Int) (f : Int → Option Int) (m : Int), vs = [.ref (A.ad .rack)] ∧ Bk c A sl H0 H B ∧ Geo S n B ∧ RackOK S n now B.rows f ∧ IsMin S n now f m ∧
 ∀ (H' : Hp) (l : Addr) (out : List Int) (rows' : List RowS), H0 l = none → Bk c A sl (upd H0 l (.lst (out.map V.int))) H' { B with rows := rows' } → rows'.length = B.rows.length → RackOK S n now rows' (fun k => (f k).filter fun t => !decide (st S n now t = m)) →
   out.Pairwise (· < ·) → (∀ x, x ∈ out ↔ ∃ t, f x = some t ∧ st S n now t = m) → Q (.ref l) H'
theorem sc_Rack_take_first : FnScope ["self", "row"] ["self"] (Zd Ye) := Zw
theorem US (T : Txt K mg a) : FnOk P w K mg base (CXe P w) 3 a.f_Rack_take_first a.fd_Rack_take_first ["self"] (spTakeFirst (clOf a)) := by
 have G_Rack_first_row := Vy (P := P) (w := w) (base := base) T
 have G_Row_take_slot := VI (P := P) (w := w) (base := base) T
 refine T.F_Rack_take_first.okN sc_Rack_take_first (fun vs H Q E h => ?_) (fun cdv A' outer s H vs Q E hr h => ?_)
 · obtain ⟨A, sl, H0, B, S, n, now, f, m, rfl, _⟩ := h
   rfl
 · obtain ⟨A, sl, H0, B, S, n, now, f, m, rfl, b, G, R, M, k⟩ := h
   refine ⟨_, (Zh (Zz (i := 1) sc_Rack_take_first.nd rfl (Or.inl rfl) (Uk (pv 0) T.cl_Rack T.m_Rack_first_row G_Rack_first_row (hr.mono (by decide)) T.B_Rack_first_row .nil ZE))
     (Zg (Zq (ZU (pv 1) T.cl_Row T.m_Row_take_slot G_Row_take_slot (hr.mono (by decide)) T.B_Row_take_slot .nil ZE (Za (ZD Yo (Zu (pv 1) rfl) Zf (fun _ _ => rfl)) Ze))))), ?_⟩
   refine ⟨_, rfl, _, _, _, rfl, b.rack, rfl, A, sl, H0, B, rfl, b, fun h => ?_, fun L r x hi hx low => ?_⟩
   · have no := R.none_first h
     obtain ⟨k', t', e, _⟩ := M.one
     rw [no k'] at e
     cases e
   · have F := R.first hi hx low
     have em : m = x * S ^ L := M.uniq (First.isMin F)
     have RR := R.row L r hi
     have hxm : x ∈ r.rising := List.mem_of_getElem? hx
     obtain ⟨ns, hns⟩ := Option.isSome_iff_exists.mp ((RR.mem x).mp hxm)
     refine ⟨_, rfl, _, _, _, rfl, b.row hi, rfl, _, rfl, _, _, _, _, _, rfl, b.row hi, T.cl_Row, T.n_Row_rising, rfl, _, _, _, .int x, rfl, rfl, SqL.of (b.rising hi), (by rw [show (0 : Int) = ((0 : Nat) : Int) from rfl]; exact VA (by rw [List.getElem?_map, hx]; rfl)), ?_⟩
     refine ⟨A, sl, H0, B, L, r, x, ns, rfl, b, hi, RR.srt, hxm, hns, RR.nd _ _ hns, RackOK.sm R G.hi G.n6 hi, fun H1 l out hl b1 hs hm => ?_⟩
     refine k H1 l out _ hl b1 (List.length_set ..) ((R.out hi hxm).congr fun y => ?_) hs fun y => ?_
     · cases e : f y with
       | none => rfl
       | some t =>
         have := F.just y t e
         rw [← em] at this
         simp only [Option.filter, this]
     · rw [hm y, em]
       refine Iff.trans ⟨fun z => ⟨ns, hns, z⟩, fun ⟨ms, z1, z2⟩ => ?_⟩ (first_has R hi F y)
       rw [hns] at z1
       cases z1
       exact z2
end Tk
end
section
namespace Tb
open PySem L2 Mir Rk
section
variable {c : Cl} {A : Adr} {sl : Sl} {H0 H : Hp} {B : BkS}
theorem Bk.putT (b : Bk c A sl H0 H B) (k t : Int) (h : B.ticks.length ≤ 1000) : DPut H (A.ad .ticks) (.int k) (.int t) (upd H (A.ad .ticks) (.dK (mapK (fun _ x => V.int x) (put B.ticks k t)))) := by
 have := DPut.k (k := Sum.inl k) (v := .int t) b.ticks (by rw [YG]; exact UA h)
 rw [XQ (fun _ x => V.int x) B.ticks k t] at this
 exact this
theorem Bk.putN (b : Bk c A sl H0 H B) (k : Int) (x : Str) (h : B.names.length ≤ 1000) : DPut H (A.ad .names) (.int k) (.str x) (upd H (A.ad .names) (.dK (mapK (fun _ x => V.str x) (put B.names k x)))) := by
 have := DPut.k (k := Sum.inl k) (v := .str x) b.names (by rw [YG]; exact UA h)
 rw [XQ (fun _ x => V.str x) B.names k x] at this
 exact this
theorem Bk.putSt (b : Bk c A sl H0 H B) (k : Int) (x : Option Int) (h : B.steps.length ≤ 1000) : DPut H (A.ad .steps) (.int k) (Vc x) (upd H (A.ad .steps) (.dK (mapK (fun _ x => Vc x) (put B.steps k x)))) := by
 have := DPut.k (k := Sum.inl k) (v := Vc x) b.steps (by rw [YG]; exact UA h)
 rw [XQ (fun _ x => Vc x) B.steps k x] at this
 exact this
theorem Bk.putKp (b : Bk c A sl H0 H B) (k t : Int) (h : B.kept.length ≤ 1000) : DPut H (A.ad .kept) (.int k) (.int t) (upd H (A.ad .kept) (.dK (mapK (fun _ x => V.int x) (put B.kept k t)))) := by
 have := DPut.k (k := Sum.inl k) (v := .int t) b.kept (by rw [YG]; exact UA h)
 rw [XQ (fun _ x => V.int x) B.kept k t] at this
 exact this
theorem Bk.getT (b : Bk c A sl H0 H B) (k : Int) : DGet H (A.ad .ticks) (.int k) ((get B.ticks k).map V.int) := by
 have := DGet.k (k := Sum.inl k) b.ticks
 rw [ZW] at this
 exact this
theorem Bk.getKp (b : Bk c A sl H0 H B) (k : Int) : DGet H (A.ad .kept) (.int k) ((get B.kept k).map V.int) := by
 have := DGet.k (k := Sum.inl k) b.kept
 rw [ZW] at this
 exact this
theorem Bk.getN (b : Bk c A sl H0 H B) (k : Int) : DGet H (A.ad .names) (.int k) ((get B.names k).map V.str) := by
 have := DGet.k (k := Sum.inl k) b.names
 rw [ZW] at this
 exact this
theorem Bk.getSt (b : Bk c A sl H0 H B) (k : Int) : DGet H (A.ad .steps) (.int k) ((get B.steps k).map Vc) := by
 have := DGet.k (k := Sum.inl k) b.steps
 rw [ZW] at this
 exact this
theorem Bk.popT (b : Bk c A sl H0 H B) (k : Int) : Bk c A sl H0 (upd H (A.ad .ticks) (.dK (YF (mapK (fun _ x => V.int x) B.ticks) (Sum.inl k)))) { B with ticks := drop B.ticks k } := by rw [Xk]; exact b.wTicks _
theorem Bk.popK (b : Bk c A sl H0 H B) (k : Int) : Bk c A sl H0 (upd H (A.ad .kept) (.dK (YF (mapK (fun _ x => V.int x) B.kept) (Sum.inl k)))) { B with kept := drop B.kept k } := by rw [Xk]; exact b.wKept _
theorem Bk.popN (b : Bk c A sl H0 H B) (k : Int) : Bk c A sl H0 (upd H (A.ad .names) (.dK (YF (mapK (fun _ x => V.str x) B.names) (Sum.inl k)))) { B with names := drop B.names k } := by rw [Xk]; exact b.wNames _
theorem Bk.popS (b : Bk c A sl H0 H B) (k : Int) : Bk c A sl H0 (upd H (A.ad .steps) (.dK (YF (mapK (fun _ x => Vc x) B.steps) (Sum.inl k)))) { B with steps := drop B.steps k } := by rw [Xk]; exact b.wSteps _
end
end Tb
namespace Tk
open PySem L2 Mir Rk Tb
open PyProof.Rows (boot_sorted boot_min boot_enumerate boot_isinstance)
section
variable {P : Program} {w : World} {K : W.Frag} {mg : Str → Option Value} {base : Heap} {a : Ad}
theorem Geo.up {S : Int} {n : Nat} {B B' : BkS} (G : Geo S n B) (h1 : B'.slots = B.slots) (h2 : B'.spans = B.spans) (h3 : B'.rows.length = B.rows.length) : Geo S n B' := ⟨G.lo, G.hi, G.n1, G.n6, h1.trans G.slots, h2.trans G.spans, h3.trans G.len⟩
def spStart (c : Cl) : Sp := fun vs H Q _ => ∃ (A : Adr) (sl : Sl) (H0 : Hp) (B : BkS) (S : Int) (n : Nat) (k t : Int) (f : Int → Option Int), vs = [.ref (A.ad .book), .int k, .int t] ∧ Bk c A sl H0 H B ∧ Geo S n B ∧ RackOK S n B.now B.rows f ∧ f k = none ∧ B.now < t ∧ 0 ≤ k ∧ k < 63 ∧ B.ticks.length ≤ 1000 ∧
 ∀ (H' : Hp) (sl' : Sl) (rows' : List RowS), Bk c A sl' H0 H' { B with rows := rows', ticks := put B.ticks k t } → rows'.length = B.rows.length → RackOK S n B.now rows' (gput f k (some t)) → Q .non H'
theorem Tt : FnScope ["book", "number", "tick"] ["book", "number", "tick"] (Zd Ys) := Zw
theorem YD (T : Txt K mg a) : FnOk P w K mg base (CXe P w) 4 a.f_start_waiting a.fd_start_waiting ["book", "number", "tick"] (spStart (clOf a)) := by
 have G_Rack_put := ok_Rack_put (P := P) (w := w) (base := base) T
 refine T.F_start_waiting.okN Tt (fun vs H Q E h => ?_) (fun cdv A' outer s H vs Q E hr h => ?_)
 · obtain ⟨A, sl, H0, B, S, n, k, t, f, rfl, _⟩ := h
   rfl
 · obtain ⟨A, sl, H0, B, S, n, k, t, f, rfl, b, G, R, hk, ht, hd1, hd2, hl, kk⟩ := h
   have hu := YL hr
   refine ⟨_, (Zh (YI hu (Zu (pv 0) rfl) (pv 1) (pv 2) rfl)
     (Zg (ZG (ZU (Zu (pv 0) rfl) T.cl_Rack T.m_Rack_put G_Rack_put (hr.mono (by decide)) T.B_Rack_put .nil ZE (Za (Zu (pv 0) rfl) (Za (pv 1) (Za (pv 2) Ze))))))), ?_⟩
   refine ⟨_, rfl, _, rfl, _, _, _, _, _, rfl, b.book, T.cl_Book, T.n_Book_ticks, rfl, _, rfl, _, _, rfl, b.putT k t hl, ?_⟩
   have b1 := b.wTicks (put B.ticks k t)
   refine ⟨_, rfl, _, _, _, _, _, rfl, b1.book, T.cl_Book, T.n_Book_rack, rfl, _, _, _, rfl, b1.rack, rfl, _, rfl, _, _, _, _, _, rfl, b1.book, T.cl_Book, T.n_Book_now, rfl, _, rfl, _, rfl, ?_⟩
   exact ⟨A, sl, H0, _, S, n, B.now, k, t, f, rfl, b1, G.up rfl rfl rfl, R, hk, ht, hd1, hd2, fun H' sl' rows' b2 e R' => kk H' sl' rows' b2 e R'⟩
def spForget (c : Cl) : Sp := fun vs H Q _ => ∃ (A : Adr) (sl : Sl) (H0 : Hp) (B : BkS) (k : Int) (nm : Str) (sp : Option Int), vs = [.ref (A.ad .book), .int k] ∧ Bk c A sl H0 H B ∧ get B.names k = some nm ∧ get B.steps k = some sp ∧ ∀ H', Bk c A sl H0 H' { B with steps := drop B.steps k, names := drop B.names k } → Q (.str nm) H'
theorem sc_forget : FnScope ["book", "number"] ["book", "number"] (Zd VD) := Zw
theorem RD (T : Txt K mg a) : FnOk P w K mg base (CXe P w) 1 a.f_forget a.fd_forget ["book", "number"] (spForget (clOf a)) := by
 refine T.F_forget.okN sc_forget (fun vs H Q E h => ?_) (fun cdv A' outer s H vs Q E hr h => ?_)
 · obtain ⟨A, sl, H0, B, k, nm, sp, rfl, _⟩ := h
   rfl
 · obtain ⟨A, sl, H0, B, k, nm, sp, rfl, b, hn, hs, kk⟩ := h
   refine ⟨_, (Zh (ZG (YK (Zu (pv 0) rfl) (pv 1) ⟨rfl, rfl, rfl, rfl⟩)) (Zg (Zq (YK (Zu (pv 0) rfl) (pv 1) ⟨rfl, rfl, rfl, rfl⟩)))), ?_⟩
   refine ⟨_, rfl, _, _, _, _, _, rfl, b.book, T.cl_Book, T.n_Book_steps, rfl, _, rfl, .inl ⟨_, .inl b.steps⟩, _, rfl, _, Sum.inl k, Vc sp, b.steps, rfl, (by rw [ZW, hs]; rfl), ?_⟩
   have b1 := b.popS k
   refine ⟨_, rfl, _, _, _, _, _, rfl, b1.book, T.cl_Book, T.n_Book_names, rfl, _, rfl, .inl ⟨_, .inl b1.names⟩, _, rfl, _, Sum.inl k, .str nm, b1.names, rfl, (by rw [ZW]; show (get B.names k).map _ = _; rw [hn]; rfl), ?_⟩
   exact kk _ (b1.popN k)
def Lg (x : Int) : Prop := x.natAbs.log2 < 1920
def spCheckTick (c : Cl) (Past : Addr) : Sp := fun vs H Q E => ∃ (A : Adr) (sl : Sl) (H0 : Hp) (B : BkS) (due : Int), vs = [.ref (A.ad .book), .int due] ∧ Bk c A sl H0 H B ∧ Lg due ∧ (due ≤ B.now → E (.ref Past) none H) ∧ (B.now < due → Q .non H)
theorem Rc : FnScope ["book", "due"] ["book", "due"] (Zd YW) := Zw
theorem UM (T : Txt K mg a) : FnOk P w K mg base (CXe P w) 1 a.f_check_tick a.fd_check_tick ["book", "due"] (spCheckTick (clOf a) a.C_Past) := by
 refine T.F_check_tick.okE Rc (fun vs H Q E h => ?_) (fun cdv A' outer s H vs Q E hr h => ?_)
 · obtain ⟨A, sl, H0, B, due, rfl, _⟩ := h
   rfl
 · obtain ⟨A, sl, H0, B, due, rfl, b, hl, k0, k1⟩ := h
   refine ⟨_, (Zg (ZI (Zo RC (pv 1) (Zu (pv 0) rfl) (Zv _)) (Zg (XW TJ rfl rfl T.c_Past T.x_Past (Za (Vu (YO (XX (pv 1) (YO Uj)))) Ze))) Zy)), ?_⟩
   refine ⟨_, rfl, _, rfl, _, _, _, _, _, rfl, b.book, T.cl_Book, T.n_Book_now, rfl, _, _, rfl, rfl, _, rfl, ?_⟩
   refine ite2 (fun c => ?_) (fun c => ?_)
   · exact ⟨_, rfl, _, rfl, hl, fun y => ⟨by show 1 ≤ sizeLine; decide, k0 (of_decide_eq_true c)⟩⟩
   · exact k1 (by have : ¬ due ≤ B.now := fun z => c (decide_eq_true z)
                  omega)
def spCheckStep (Past : Addr) : Sp := fun vs H Q E => ∃ (sp : Option Int), vs = [Vc sp] ∧ (∀ s, sp = some s → Lg s) ∧ (∀ s, sp = some s → s < 1 → E (.ref Past) none H) ∧ ((∀ s, sp = some s → 1 ≤ s) → Q .non H)
theorem Re : FnScope ["step"] ["step"] (Zd YX) := Zw
theorem Rj (T : Txt K mg a) : FnOk P w K mg base (CXe P w) 1 a.f_check_step a.fd_check_step ["step"] (spCheckStep a.C_Past) := by
 refine T.F_check_step.okE Re (fun vs H Q E h => ?_) (fun cdv A' outer s H vs Q E hr h => ?_)
 · obtain ⟨sp, rfl, _⟩ := h
   rfl
 · obtain ⟨sp, rfl, hl, k0, k1⟩ := h
   refine ⟨_, (Zg (ZI (Tz (Zo Vv (pv 0) ZO (Zv _)) (UD (Zo Um (pv 0) Zf (Zv _)))).pt (Zg (XW TJ rfl rfl T.c_Past T.x_Past (Za (Vu (YO (XX (pv 0) (YO Uj)))) Ze))) Zy)), ?_⟩
   cases sp with
   | none =>
     refine ⟨_, rfl, rfl, _, rfl, iteF ?_⟩
     exact iteF (k1 fun s z => by cases z)
   | some x =>
     refine ⟨_, rfl, rfl, _, rfl, iteT ?_⟩
     refine ⟨_, rfl, _, _, rfl, rfl, _, rfl, ?_⟩
     refine ite2 (fun c => ?_) (fun c => ?_)
     · exact ⟨_, rfl, _, rfl, hl x rfl, fun y => ⟨by show 1 ≤ sizeLine; decide, k0 x rfl (of_decide_eq_true c)⟩⟩
     · exact k1 fun s z => by
         cases z
         have : ¬ x < 1 := fun z => c (decide_eq_true z)
         omega
def Ss (Past : Addr) : Sp := fun vs H Q E => ∃ (t : Int), vs = [.int t] ∧ Lg t ∧ (t < 0 → E (.ref Past) none H) ∧ (0 ≤ t → Q .non H)
theorem Tu : FnScope ["ticks"] ["ticks"] (Zd Yt) := Zw
theorem TB (T : Txt K mg a) : FnOk P w K mg base (CXe P w) 1 a.f_check_stretch a.fd_check_stretch ["ticks"] (Ss a.C_Past) := by
 refine T.F_check_stretch.okE Tu (fun vs H Q E h => ?_) (fun cdv A' outer s H vs Q E hr h => ?_)
 · obtain ⟨t, rfl, _⟩ := h
   rfl
 · obtain ⟨t, rfl, hl, k0, k1⟩ := h
   refine ⟨_, (Zg (ZI (Zo Um (pv 0) Zf (Zv _)) (Zg (XW TJ rfl rfl T.c_Past T.x_Past (Za (Vu (YO (XX (pv 0) (YO Uj)))) Ze))) Zy)), ?_⟩
   refine ⟨_, rfl, _, _, rfl, rfl, _, rfl, ?_⟩
   refine ite2 (fun c => ?_) (fun c => ?_)
   · exact ⟨_, rfl, _, rfl, hl, fun y => ⟨by show 1 ≤ sizeLine; decide, k0 (of_decide_eq_true c)⟩⟩
   · have : ¬ t < 0 := fun z => c (decide_eq_true z)
     exact k1 (by omega)
end
end Tk
end
section
namespace Tk
open PySem L2 Mir Rk Tb
open PyProof.Rows (boot_sorted boot_min boot_enumerate boot_isinstance boot_sum boot_max)
variable {P : Program} {w : World} {K : W.Frag} {mg : Str → Option Value} {base : Heap} {a : Ad}
def XU (r : Int × Int × Str) : List V := [.int r.1, .int r.2.1, .str r.2.2]
theorem gput_same {f : Int → Option Int} {k : Int} (h : f k = none) : gput f k none = f := by
 funext m
 unfold gput
 by_cases e : m = k
 · rw [if_pos e, e, h]
 · rw [if_neg e]
def spRing (c : Cl) : Sp := fun vs H Q _ => ∃ (A : Adr) (sl : Sl) (H0 : Hp) (B : BkS) (S : Int) (n : Nat) (k t : Int) (f : Int → Option Int) (nm : Str) (sp : Option Int), vs = [.ref (A.ad .book), .int k] ∧ Bk c A sl H0 H B ∧ Geo S n B ∧ RackOK S n B.now B.rows f ∧ f k = none ∧ 0 ≤ k ∧ k < 63 ∧ B.ticks.length ≤ 1000 ∧
 get B.ticks k = some t ∧ get B.names k = some nm ∧ get B.steps k = some sp ∧ (∀ s, sp = some s → 1 ≤ s) ∧
 ∀ (H' : Hp) (sl' : Sl) (rows' : List RowS) (p : Addr), H0 p = none → Bk c A sl' (upd H0 p (.tup (XU (B.now, k, nm)))) H' { ringB B k sp with rows := rows' } → rows'.length = B.rows.length → RackOK S n B.now rows' (gput f k (sp.map (B.now + ·))) → Q (.ref p) H'
theorem sc_ring : FnScope ["book", "number", "step"] ["book", "number"] (Zd Tw) := Zw
theorem ok_ring (T : Txt K mg a) : FnOk P w K mg base (CXe P w) 5 a.f_ring a.fd_ring ["book", "number"] (spRing (clOf a)) := by
 have G_forget := RD (P := P) (w := w) (base := base) T
 have G_start_waiting := YD (P := P) (w := w) (base := base) T
 refine T.F_ring.okN sc_ring (fun vs H Q E h => ?_) (fun cdv A' outer s H vs Q E hr h => ?_)
 · obtain ⟨A, sl, H0, B, S, n, k, t, f, nm, sp, rfl, _⟩ := h
   rfl
 · obtain ⟨A, sl, H0, B, S, n, k, t, f, nm, sp, rfl, b, G, R, hk, hd1, hd2, hl, ht, hn, hs, hp, kk⟩ := h
   have hu := YL hr
   refine ⟨_, (Zh (Zz (i := 2) sc_ring.nd rfl (Or.inl rfl) (Zs hu (Zu (pv 0) rfl) (pv 1) (fun _ _ => rfl)))
     (Zh (ZI (Zo XZ (pv 2) ZO (Zv _)) (Zh (ZG (YK (Zu (pv 0) rfl) (pv 1) ⟨rfl, rfl, rfl, rfl⟩))
     (Zg (Zq (Yq (Za (Zu (pv 0) rfl) (Za (pv 1) (Za (ZA G_forget (hr.mono (by decide)) rfl T.f_forget T.kp_forget T.B_forget .nil ZE (Za (pv 0) (Za (pv 1) Ze))) Ze))))))) Zy)
     (Zh (ZG (ZA G_start_waiting (hr.mono (by decide)) rfl T.f_start_waiting T.kp_start_waiting T.B_start_waiting .nil ZE (Za (pv 0) (Za (pv 1) (Za (Zp Yg (Zu (pv 0) rfl) (pv 2)) Ze)))))
     (Zg (Zq (Yq (Za (Zu (pv 0) rfl) (Za (pv 1) (Za (Zs hu (Zu (pv 0) rfl) (pv 1) (fun _ _ => rfl)) Ze))))))))), ?_⟩
   have g0 := b.getSt k
   rw [hs] at g0
   refine ⟨_, rfl, _, _, _, _, _, rfl, b.book, T.cl_Book, T.n_Book_steps, rfl, _, rfl, _, _, rfl, g0, ?_⟩
   cases sp with
   | none =>
     refine ⟨_, rfl, rfl, _, rfl, iteT ?_⟩
     refine ⟨_, rfl, _, _, _, _, _, rfl, b.book, T.cl_Book, T.n_Book_ticks, rfl, _, rfl, .inl ⟨_, .inl b.ticks⟩, _, rfl, _, Sum.inl k, .int t, b.ticks, rfl, (by rw [ZW, ht]; rfl), ?_⟩
     have b1 := b.popT k
     refine ⟨_, rfl, _, _, _, _, _, rfl, b1.book, T.cl_Book, T.n_Book_now, rfl, _, rfl, _, rfl, _, rfl, A, sl, H0, _, k, nm, none, rfl, b1, hn, hs, fun H2 b2 => ?_⟩
     refine ⟨by show 3 ≤ sizeLine; decide, fun p hp => ?_⟩
     exact kk _ sl B.rows p (b2.same.free hp) (b2.out (.inl hp)) rfl (by rw [show (none : Option Int).map (B.now + ·) = none from rfl, gput_same hk]; exact R)
   | some x =>
     refine ⟨_, rfl, rfl, _, rfl, iteF ?_⟩
     refine ⟨_, rfl, _, rfl, _, rfl, _, _, _, _, _, rfl, b.book, T.cl_Book, T.n_Book_now, rfl, _, rfl, _, _, rfl, rfl, ?_⟩
     have hx := hp x rfl
     refine ⟨A, sl, H0, B, S, n, k, B.now + x, f, rfl, b, G, R, hk, by omega, hd1, hd2, hl, fun H2 sl2 rows2 b2 e2 R2 => ?_⟩
     have g1 := b2.getN k
     rw [show get _ k = some nm from hn] at g1
     refine ⟨_, rfl, _, _, _, _, _, rfl, b2.book, T.cl_Book, T.n_Book_now, rfl, _, rfl, _, rfl, _, _, _, _, _, rfl, b2.book, T.cl_Book, T.n_Book_names, rfl, _, rfl, _, _, rfl, g1, ?_⟩
     refine ⟨by show 3 ≤ sizeLine; decide, fun p hp => ?_⟩
     exact kk _ sl2 rows2 p (b2.same.free hp) (b2.out (.inl hp)) e2 R2
end Tk
end
section
namespace Tb
open PySem L2 Mir Rk
theorem Out.sameT {B : BkS} (o : Out B) {t : Dct Int} (nd : (keys t).Nodup) (h : ∀ m, get t m = get B.ticks m) : Out { B with ticks := t } where
 ndT := nd
 ndK := o.ndK
 ndN := o.ndN
 ndS := o.ndS
 nx := o.nx
 dom := o.dom
 nm := fun k => by show (get B.names k).isSome = ((get t k).isSome || (get B.kept k).isSome); rw [h]; exact o.nm k
 st := o.st
 pos := o.pos
 dis := fun k e => o.dis k (by rw [← h]; exact e)
 kp := o.kp
theorem Out.rows {B : BkS} (o : Out B) (r : List RowS) : Out { B with rows := r } := ⟨o.ndT, o.ndK, o.ndN, o.ndS, o.nx, o.dom, o.nm, o.st, o.pos, o.dis, o.kp⟩
theorem Out.nowS {B : BkS} (o : Out B) (r : Int) : Out { B with now := r } := ⟨o.ndT, o.ndK, o.ndN, o.ndS, o.nx, o.dom, o.nm, o.st, o.pos, o.dis, o.kp⟩
end Tb
namespace Tk
open PySem L2 Mir Rk Tb
open PyProof.Rows (boot_sorted boot_min boot_enumerate boot_isinstance)
structure BOK (S : Int) (n : Nat) (B : BkS) : Prop where
 geo : Geo S n B
 rack : RackOK S n B.now B.rows (get B.ticks)
 out : Out B
 nn : 0 ≤ B.now
def RingsAt (H : Hp) (l : Addr) (rs : List (Int × Int × Str)) : Prop := ∃ qs : List (Addr × Int × Int × Str), qs.map (·.2) = rs ∧ H l = some (.lst (qs.map fun q => V.ref q.1)) ∧ ∀ q ∈ qs, H q.1 = some (.tup (XU q.2))
theorem RingsAt.snoc {H : Hp} {l p : Addr} {r : Int × Int × Str} {qs : List (Addr × Int × Int × Str)} (h : H l = some (.lst (qs.map fun q => V.ref q.1))) (t : ∀ q ∈ qs, H q.1 = some (.tup (XU q.2))) (hp : H p = none) :
   RingsAt (upd (upd H p (.tup (XU r))) l (.lst ((qs.map fun q => V.ref q.1) ++ [.ref p]))) l (qs.map (·.2) ++ [r]) := by
 have npl : p ≠ l := fun z => by rw [z, h] at hp; cases hp
 refine ⟨qs ++ [(p, r)], by simp, by rw [Zb]; simp, fun q hq => ?_⟩
 rcases List.mem_append.mp hq with hq | hq
 · have tq := t q hq
   have n1 : q.1 ≠ l := fun z => by rw [z, h] at tq; cases tq
   have n2 : q.1 ≠ p := fun z => by rw [z, hp] at tq; cases tq
   rw [Zc n1, Zc n2]
   exact tq
 · have e : q = (p, r) := by simpa using hq
   subst e
   rw [Zc npl, Zb]
section
variable {P : Program} {w : World} {K : W.Frag} {mg : Str → Option Value} {base : Heap} {a : Ad}
def spTurnTo (c : Cl) : Sp := fun vs H Q _ => ∃ (A : Adr) (sl : Sl) (H0 : Hp) (B : BkS) (S : Int) (n : Nat) (start goal : Int), vs = [.ref (A.ad .book), .int start] ∧ Bk c A sl H0 H B ∧ BOK S n B ∧ IsMin S n B.now (get B.ticks) start ∧ start ≤ goal ∧
 ∀ (H' : Hp) (sl' : Sl) (H1 : Hp) (B' : BkS) (lr : Addr) (rs : List (Int × Int × Str)), Same H0 H1 → H0 lr = none → RingsAt H1 lr rs → Bk c A sl' H1 H' B' → BOK S n B' → B'.now = start → B'.next = B.next → rest B' = rest B → Steps goal (wait B) rs (wait B') → rs.length ≤ 63 → Q (.ref lr) H'
theorem sc_turn_to : FnScope ["book", "start", "rung", "number"] ["book", "start"] (Zd Vf) := Zw
structure Mid (c : Cl) (A : Adr) (sl : Sl) (H0 : Hp) (B : BkS) (S : Int) (n : Nat) (start goal : Int) (out : List Int) (l lr : Addr) (i : Nat) (H : Hp) (H1 : Hp) (Bi : BkS) (rs : List (Int × Int × Str)) : Prop where
 bk : Bk c A sl H1 H Bi
 same : Same H0 H1
 lst : H1 l = some (.lst (out.map V.int))
 rng : RingsAt H1 lr rs
 geo : Geo S n Bi
 ok : Out Bi
 now : Bi.now = start
 nx : Bi.next = B.next
 rst : rest Bi = rest B
 steps : Steps goal (wait B) rs (wait Bi)
 len : rs.length ≤ i
 rack : RackOK S n start Bi.rows (fun k => if k ∈ out.drop i then none else get Bi.ticks k)
 pend : ∀ k, k ∈ out.drop i → ∃ t, get Bi.ticks k = some t ∧ start ≤ t
theorem drop_cons {out : List Int} {i : Nat} {k : Int} (h : out[i]? = some k) : out.drop i = k :: out.drop (i + 1) := by
 have hi : i < out.length := (List.getElem?_eq_some_iff.mp h).1
 rw [List.drop_eq_getElem_cons hi]
 congr 1
 exact (List.getElem?_eq_some_iff.mp h).2
theorem RA {B : BkS} {k y : Int} {sp : Option Int} (h : y ≠ k) : get (ringB B k sp).ticks y = get B.ticks y := by
 cases sp with
 | none => show get (drop B.ticks k) y = _; rw [Zx, if_neg h]
 | some x => show get (put B.ticks k (B.now + x)) y = _; rw [ZB, if_neg h]
theorem ok_turn_to (T : Txt K mg a) : FnOk P w K mg base (CXe P w) 6 a.f_turn_to a.fd_turn_to ["book", "start"] (spTurnTo (clOf a)) := by
 have G_Rack_take_first := US (P := P) (w := w) (base := base) T
 have G_ring := ok_ring (P := P) (w := w) (base := base) T
 have G_start_waiting := YD (P := P) (w := w) (base := base) T
 refine T.F_turn_to.okN sc_turn_to (fun vs H Q E h => ?_) (fun cdv A' outer s H vs Q E hr h => ?_)
 · obtain ⟨A, sl, H0, B, S, n, start, goal, rfl, _⟩ := h
   rfl
 · obtain ⟨A, sl, H0, B, S, n, start, goal, rfl, b, ok, M, hg, kk⟩ := h
   have hu := YL hr
   refine ⟨_, (Zh (YS (pv 0) (pv 1) rfl)
     (Zh (Zz (i := 2) sc_turn_to.nd rfl (Or.inl rfl) (Yr Ze))
     (Zh (Vp PassesOwn.never rfl (Sa (Uk (Zu (pv 0) rfl) T.cl_Rack T.m_Rack_take_first G_Rack_take_first (hr.mono (by decide)) T.B_Rack_take_first .nil ZE)) (Yk (i := 3) sc_turn_to.nd rfl (Or.inl rfl)) (Zg (ZI (Zo Xy (Zs hu (Zu (pv 0) rfl) (pv 3) (fun _ _ => rfl)) (pv 1) (Zv _)) (Zg (ZG (VH F.plainAttrs_list F.slot_list_append F.type_list_append Vj (pv 2) (Za (ZA G_ring (hr.mono (by decide)) rfl T.f_ring T.kp_ring T.B_ring .nil ZE (Za (pv 0) (Za (pv 3) Ze))) Ze)))) (Zg (ZG (ZA G_start_waiting (hr.mono (by decide)) rfl T.f_start_waiting T.kp_start_waiting T.B_start_waiting .nil ZE (Za (pv 0) (Za (pv 3) (Za (Zs hu (Zu (pv 0) rfl) (pv 3) (fun _ _ => rfl)) Ze)))))))))
     (Zg (Zq (pv 2)))))), ?_⟩
   refine ⟨_, rfl, _, rfl, _, _, _, _, rfl, b.book, T.cl_Book, T.n_Book_now, (by show 7 < 1000; decide), ?_⟩
   have b1 := b.wNow start
   refine ⟨by decide, fun lr hlr => ?_⟩
   have b2 := b1.out (o := .lst []) (.inl hlr)
   have hlr0 : H0 lr = none := b1.same.free hlr
   refine ⟨_, rfl, _, _, _, _, _, rfl, b2.book, T.cl_Book, T.n_Book_rack, rfl, _, _, _, rfl, b2.rack, rfl, ?_⟩
   refine ⟨A, sl, _, _, S, n, B.now, get B.ticks, start, rfl, b2, ok.geo.up rfl rfl rfl, ok.rack, M, fun H3 l out rows' hl b3 e3 R3 hs hm => ?_⟩
   have hS := ok.rack.pS
   obtain ⟨k0, t0, hk0, hst0⟩ := M.one
   have hlt : B.now < start := by rw [← hst0]; exact lt_st hS (ok.rack.ahead k0 t0 hk0)
   have hlen : out.length ≤ 63 := by
     have q := (Xd hs).length_le_of_subset (l₂ := (List.range 63).map (fun (i : Nat) => (i : Int))) fun k hk => by
       obtain ⟨t, ht, _⟩ := (hm k).mp hk
       obtain ⟨z1, z2⟩ := ok.rack.dom k t ht
       exact List.mem_map.mpr ⟨k.toNat, List.mem_range.mpr (by omega), by omega⟩
     simpa using q
   have hlne : lr ≠ l := fun z => by rw [← z, Zb] at hl; cases hl
   refine ⟨_, rfl, ⟨_, SqL.of (b3.same _ _ Zb)⟩, ?_⟩
   refine SN (K := K) (a := l) (xs := out.map V.int) (fun i σ Hi => ∃ x sl' H1 Bi rs, σ = [some (.ref (A.ad .book)), some (.int start), some (.ref lr), x] ∧ Mid (clOf a) A sl' H0 B S n start goal out l lr i Hi H1 Bi rs)
     ?_ (fun i σ Hi _ ⟨x, sl', H1, Bi, rs, _, m⟩ => SqL.of (m.bk.same _ _ m.lst)) ?_ ?_
   · refine ⟨_, sl, _, _, [], rfl, b3, (Same.upd hlr0).trans (Same.upd hl), Zb, ⟨[], rfl, by rw [Zc hlne, Zb]; rfl, fun q hq => by cases hq⟩, ok.geo.up rfl rfl e3, (ok.out.nowS _).rows _, rfl, rfl, rfl, .nil, Nat.le_refl _, ?_, fun k hk => ?_⟩
     · refine (R3.later (Int.le_of_lt hlt) fun k t e => ?_).congr fun k => ?_
       · rw [Option.filter_eq_some_iff] at e
         have h1 := M.least k t e.1
         have h2 : ¬ st S n B.now t = start := by simpa using e.2
         omega
       · rw [List.drop_zero]
         show _ = if k ∈ out then none else get B.ticks k
         cases e : get B.ticks k with
         | none =>
           by_cases z : k ∈ out <;> simp [z]
         | some t =>
           have q := hm k
           rw [e] at q
           by_cases z : st S n B.now t = start
           · rw [if_pos (q.mpr ⟨t, rfl, z⟩)]
             simp [Option.filter, z]
           · rw [if_neg fun y => by
               obtain ⟨t', h1, h2⟩ := q.mp y
               cases h1
               exact z h2]
             simp [Option.filter, z]
     · rw [List.drop_zero] at hk
       obtain ⟨t, h1, h2⟩ := (hm k).mp hk
       exact ⟨t, h1, by rw [← h2]; exact Sn hS n B.now t⟩
   · rintro i v σ Hi hv ⟨x, sl', H1, Bi, rs, rfl, m⟩
     obtain ⟨k, hk, rfl⟩ : ∃ k, out[i]? = some k ∧ v = V.int k := by
       rw [List.getElem?_map] at hv
       cases e : out[i]? with
       | none => rw [e] at hv; cases hv
       | some k => rw [e] at hv; exact ⟨k, rfl, (Option.some.inj hv).symm⟩
     have hdr := drop_cons hk
     have hkd : k ∈ out.drop i := by rw [hdr]; exact List.mem_cons_self
     have hi : i < out.length := (List.getElem?_eq_some_iff.mp hk).1
     have srt' : (k :: out.drop (i + 1)).Pairwise (· < ·) := by rw [← hdr]; exact hs.sublist (List.drop_sublist _ _)
     obtain ⟨hlow, _⟩ := List.pairwise_cons.mp srt'
     have hkn : k ∉ out.drop (i + 1) := fun z => by have := hlow k z; omega
     have hmem : ∀ y, y ≠ k → (y ∈ out.drop i ↔ y ∈ out.drop (i + 1)) := fun y hy => by
       rw [hdr, List.mem_cons]
       exact ⟨fun z => z.resolve_left hy, .inr⟩
     obtain ⟨t, ht, hge⟩ := m.pend k hkd
     obtain ⟨nm, sp, hn, hsp, hw⟩ := m.ok.waits ht
     have gt := m.bk.getT k
     rw [ht] at gt
     have dm := m.ok.domT ht
     have nx63 := m.ok.nx
     have lns := m.ok.lens
     have hfk : (if k ∈ out.drop i then none else get Bi.ticks k) = none := if_pos hkd
     refine ⟨_, rfl, _, _, _, _, _, rfl, m.bk.book, T.cl_Book, T.n_Book_ticks, rfl, _, rfl, _, _, rfl, gt, _, rfl, rfl, _, rfl, ?_⟩
     refine ite2 (fun c => ?_) (fun c => ?_)
     · have c' : t = start := by have := of_decide_eq_true c; injection this
       subst c'
       obtain ⟨qs, eq, hql, hqt⟩ := id m.rng
       refine ⟨_, rfl, .inl ⟨rfl, _, SqL.of (m.bk.same _ _ hql)⟩, _, rfl, _, rfl, ?_⟩
       refine ⟨A, sl', H1, Bi, S, n, k, t, _, nm, sp, rfl, m.bk, m.geo, (by rw [m.now]; exact m.rack), hfk, by omega, by omega, by omega, ht, hn, hsp, fun s z => m.ok.pos k s (by rw [hsp, z]), fun H2 sl2 rows2 p hp b2 e2 R2 => ?_⟩
       have hl2 : H2 lr = some (.lst (qs.map fun q => V.ref q.1)) := b2.same _ _ (by rw [Zc (fun z => by rw [← z, hql] at hp; cases hp)]; exact hql)
       have hql2 : (upd H1 p (.tup (XU (Bi.now, k, nm)))) lr = some (.lst (qs.map fun q => V.ref q.1)) := by rw [Zc (fun z => by rw [← z, hql] at hp; cases hp)]; exact hql
       have hrl : qs.length = rs.length := by rw [← eq, List.length_map]
       have hml := m.len
       refine ⟨_, _, _, rfl, rfl, hl2, Vl (by rw [List.length_map]; omega), ?_⟩
       have b4 := b2.out (x := lr) (o := .lst ((qs.map fun q => V.ref q.1) ++ [.ref p])) (.inr ⟨_, hql2⟩)
       have lrl : l ≠ lr := hlne.symm
       refine ⟨_, sl2, _, { ringB Bi k sp with rows := rows2 }, rs ++ [(t, k, nm)], rfl, b4, ?_, ?_, ?_, ?_, (m.ok.ringB ht hsp).rows rows2, ?_, ?_, ?_, ?_, ?_, ?_, fun y hy => ?_⟩
       · intro y u hy
         have hy1 := m.same y u hy
         rw [Zc (Zn hy hlr0), Zc (Zn hy1 hp)]
         exact hy1
       · rw [Zc lrl, Zc (Zn m.lst hp)]
         exact m.lst
       · rw [← eq, show t = Bi.now from m.now.symm]
         exact RingsAt.snoc hql hqt hp
       · cases sp <;> exact m.geo.up rfl rfl e2
       · cases sp <;> exact m.now
       · cases sp <;> exact m.nx
       · rw [← m.rst]
         exact m.ok.rest_ringB ht
       · have q := m.ok.wait_ringB (k := k) (sp := sp) (nm := nm) (by rw [ht, m.now]) hsp hn
         have hst : wait { ringB Bi k sp with rows := rows2 } = fput (wait Bi) k (after ⟨nm, t, sp⟩) := by rw [← m.now]; rw [m.now]; rw [← show Bi.now = t from m.now]; exact q
         rw [hst]
         refine .snoc m.steps (a := ⟨nm, t, sp⟩) ⟨hw, hg, fun y z hz => ?_⟩
         obtain ⟨_, _, hzt⟩ := alarm_some.mp hz
         by_cases hy : y ∈ out.drop i
         · obtain ⟨t', h1, h2⟩ := m.pend y hy
           rw [hzt] at h1
           cases h1
           have hky : k ≤ y := by
             rw [hdr] at hy
             rcases List.mem_cons.mp hy with e | e
             · omega
             · exact Int.le_of_lt (hlow y e)
           show t < z.tick ∨ (t = z.tick ∧ k ≤ y)
           omega
         · have := m.rack.ahead y z.tick (by show (if y ∈ out.drop i then none else get Bi.ticks y) = _; rw [if_neg hy]; exact hzt)
           exact .inl this
       · rw [List.length_append, List.length_singleton]; have := m.len; omega
       · rw [← show Bi.now = t from m.now]
         refine R2.congr fun y => ?_
         show _ = if y ∈ out.drop (i + 1) then none else get (ringB Bi k sp).ticks y
         unfold gput
         by_cases hy : y = k
         · rw [if_pos hy, hy, if_neg hkn]
           cases sp with
           | none => show none = get (drop Bi.ticks k) k; rw [Zx, if_pos rfl]
           | some x => show some (Bi.now + x) = get (put Bi.ticks k (Bi.now + x)) k; rw [ZB, if_pos rfl]
         · rw [if_neg hy, RA hy]
           dsimp only
           by_cases hz : y ∈ out.drop (i + 1)
           · rw [if_pos hz, if_pos ((hmem y hy).mpr hz)]
           · rw [if_neg hz, if_neg fun q => hz ((hmem y hy).mp q)]
       · have hyk : y ≠ k := fun z => hkn (z ▸ hy)
         show ∃ t', get (ringB Bi k sp).ticks y = some t' ∧ t ≤ t'
         rw [RA hyk]
         exact m.pend y ((hmem y hyk).mpr hy)
     · have c' : t ≠ start := fun z => c (decide_eq_true (congrArg V.int z))
       refine ⟨_, rfl, _, rfl, _, rfl, _, _, _, _, _, rfl, m.bk.book, T.cl_Book, T.n_Book_ticks, rfl, _, rfl, _, _, rfl, gt, ?_⟩
       refine ⟨A, sl', H1, Bi, S, n, k, t, _, rfl, m.bk, m.geo, (by rw [m.now]; exact m.rack), hfk, (by rw [m.now]; omega), by omega, by omega, by omega, fun H2 sl2 rows2 b2 e2 R2 => ?_⟩
       have eget : ∀ y, get (put Bi.ticks k t) y = get Bi.ticks y := fun y => by
         rw [ZB]
         by_cases hy : y = k
         · rw [if_pos hy, hy, ht]
         · rw [if_neg hy]
       have ew : wait { Bi with rows := rows2, ticks := put Bi.ticks k t } = wait Bi := by
         funext y
         show ZZ (get Bi.names y) (get Bi.steps y) (get (put Bi.ticks k t) y) = _
         rw [eget]
         rfl
       refine ⟨_, sl2, H1, _, rs, rfl, b2, m.same, m.lst, m.rng, m.geo.up rfl rfl e2, (m.ok.sameT (ZY m.ok.ndT _ _) eget).rows rows2, m.now, m.nx, m.rst, (by rw [ew]; exact m.steps), (by have := m.len; omega), ?_, fun y hy => ?_⟩
       · rw [← m.now]
         refine R2.congr fun y => ?_
         show _ = if y ∈ out.drop (i + 1) then none else get (put Bi.ticks k t) y
         rw [eget]
         unfold gput
         by_cases hy : y = k
         · rw [if_pos hy, hy, if_neg hkn, ht]
         · rw [if_neg hy]
           dsimp only
           by_cases hz : y ∈ out.drop (i + 1)
           · rw [if_pos hz, if_pos ((hmem y hy).mpr hz)]
           · rw [if_neg hz, if_neg fun q => hz ((hmem y hy).mp q)]
       · have hyk : y ≠ k := fun z => hkn (z ▸ hy)
         show ∃ t', get (put Bi.ticks k t) y = some t' ∧ start ≤ t'
         rw [eget]
         exact m.pend y ((hmem y hyk).mpr hy)
   · rintro σ Hi ⟨x, sl', H1, Bi, rs, rfl, m⟩
     rw [List.length_map] at m
     have hR := m.rack
     rw [List.drop_length] at hR
     refine ⟨_, rfl, kk Hi sl' H1 Bi lr rs m.same hlr0 m.rng m.bk ⟨m.geo, (by rw [m.now]; exact hR.congr fun y => by simp), m.ok, by rw [m.now]; have := ok.nn; omega⟩ m.now m.nx m.rst m.steps (by have := m.len; omega)⟩
end
end Tk
end
section
namespace Tk
open PySem L2 Mir Rk Tb
open PyProof.Rows (boot_sorted boot_min boot_enumerate boot_isinstance boot_sum boot_max)
variable {P : Program} {w : World} {K : W.Frag} {mg : Str → Option Value} {base : Heap} {a : Ad}
structure Vw where
 S : Int
 n : Nat
 now : Int
 next : Int
 wait : Fn Str
 rest : Fn Str
def BookAt (c : Cl) (H0 H : Hp) (p : Addr) (v : Vw) : Prop := ∃ A sl B, A.ad .book = p ∧ Bk c A sl H0 H B ∧ BOK v.S v.n B ∧ B.now = v.now ∧ B.next = v.next ∧ wait B = v.wait ∧ rest B = v.rest
theorem RingsAt.cat {H : Hp} {l : Addr} {qs qs2 : List (Addr × Int × Int × Str)} (h : H l = some (.lst (qs.map fun q => V.ref q.1))) (t : ∀ q ∈ qs, H q.1 = some (.tup (XU q.2))) (t2 : ∀ q ∈ qs2, H q.1 = some (.tup (XU q.2))) :
   RingsAt (upd H l (.lst ((qs.map fun q => V.ref q.1) ++ (qs2.map fun q => V.ref q.1)))) l (qs.map (·.2) ++ qs2.map (·.2)) := by
 refine ⟨qs ++ qs2, by simp, by rw [Zb]; simp, fun q hq => ?_⟩
 have tq : H q.1 = some (.tup (XU q.2)) := by
   rcases List.mem_append.mp hq with hq | hq
   · exact t q hq
   · exact t2 q hq
 rw [Zc fun z => by rw [z, h] at tq; cases tq]
 exact tq
def Ra (c : Cl) : Sp := fun vs H Q _ => ∃ (A : Adr) (sl : Sl) (H0 : Hp) (B : BkS) (S : Int) (n : Nat) (now : Int) (f : Int → Option Int), vs = [.ref (A.ad .rack)] ∧ Bk c A sl H0 H B ∧ Geo S n B ∧ RackOK S n now B.rows f ∧ ∀ x, (((∀ k, f k = none) ∧ x = .non) ∨ ∃ m, IsMin S n now f m ∧ x = .int m) → Q x H
theorem Up (T : Txt K mg a) : FnOk P w K mg base (CXe P w) 2 a.f_Rack_first_start a.fd_Rack_first_start ["self"] (Ra (clOf a)) :=
 (UK T).imp fun vs H Q E ⟨A, sl, H0, B, S, n, now, f, e, b, G, R, k⟩ => ⟨A, sl, H0, B, S, n, now, f, e, b, G, R, fun h => k _ (.inl ⟨h, rfl⟩), fun m hm => k _ (.inr ⟨m, hm, rfl⟩)⟩
def spPass (c : Cl) (Past : Addr) : Sp := fun vs H Q E => ∃ (H0 : Hp) (p : Addr) (v : Vw) (t : Int), vs = [.ref p, .int t] ∧ BookAt c H0 H p v ∧ Lg t ∧ (t < 0 → E (.ref Past) none H) ∧ (0 ≤ t → muF (v.now + t) 63 v.wait ≤ 1000000 ∧
 ∀ (H' H1 : Hp) (lr : Addr) (rs : List (Int × Int × Str)) (g : Fn Str), Same H0 H1 → H0 lr = none → RingsAt H1 lr rs → BookAt c H1 H' p { v with now := v.now + t, wait := g } → Runs (v.now + t) v.wait rs g → Q (.ref lr) H')
theorem sc_pass_ticks : FnScope ["book", "ticks", "end", "rung", "start"] ["book", "ticks"] (Zd YV) := Zw
structure Going (c : Cl) (A : Adr) (sl : Sl) (H0 : Hp) (B : BkS) (S : Int) (n : Nat) (goal : Int) (lr : Addr) (H : Hp) (H1 : Hp) (Bi : BkS) (rs : List (Int × Int × Str)) (x : V) : Prop where
 bk : Bk c A sl H1 H Bi
 same : Same H0 H1
 rng : RingsAt H1 lr rs
 ok : BOK S n Bi
 nx : Bi.next = B.next
 rst : rest Bi = rest B
 le : Bi.now ≤ goal
 steps : Steps goal (wait B) rs (wait Bi)
 st : ((∀ k, get Bi.ticks k = none) ∧ x = .non) ∨ ∃ m, IsMin S n Bi.now (get Bi.ticks) m ∧ x = .int m
theorem Ri (T : Txt K mg a) : FnOk P w K mg base (CXe P w) 7 a.f_pass_ticks a.fd_pass_ticks ["book", "ticks"] (spPass (clOf a) a.C_Past) := by
 have G_check_stretch := TB (P := P) (w := w) (base := base) T
 have G_Rack_first_start := Up (P := P) (w := w) (base := base) T
 have G_turn_to := ok_turn_to (P := P) (w := w) (base := base) T
 refine T.F_pass_ticks.okE sc_pass_ticks (fun vs H Q E h => ?_) (fun cdv A' outer s H vs Q E hr h => ?_)
 · obtain ⟨H0, p, v, t, rfl, _⟩ := h
   rfl
 · obtain ⟨H0, p, v, t, rfl, ⟨A, sl, B, rfl, b, ok, e1, e2, e3, e4⟩, hl, k0, k1⟩ := h
   have hu := YL hr
   refine ⟨_, (Zh (ZG (ZA G_check_stretch (hr.mono (by decide)) rfl T.f_check_stretch T.kp_check_stretch T.B_check_stretch .nil Ul (Za (pv 1) Ze)))
     (Zh (Zz (i := 2) sc_pass_ticks.nd rfl (Or.inl rfl) (Zp Yg (Zu (pv 0) rfl) (pv 1)))
     (Zh (Zz (i := 3) sc_pass_ticks.nd rfl (Or.inl rfl) (Yr Ze))
     (Zh (Zz (i := 4) sc_pass_ticks.nd rfl (Or.inl rfl) (Uk (Zu (pv 0) rfl) T.cl_Rack T.m_Rack_first_start G_Rack_first_start (hr.mono (by decide)) T.B_Rack_first_start .nil ZE))
     (Zh (PS.nox (Sz PassesOwn.never (Tz (Zo Vv (pv 4) ZO (Zv _)) (UD (Zo RC (pv 4) (pv 2) (Zv _)))).pt (Zh (ZG (VH F.plainAttrs_list F.slot_list_extend F.type_list_extend mt_extend (pv 3) (Za (ZA G_turn_to (hr.mono (by decide)) rfl T.f_turn_to T.kp_turn_to T.B_turn_to .nil ZE (Za (pv 0) (Za (pv 4) Ze))) Ze)))
     (Zg (Zz (i := 4) sc_pass_ticks.nd rfl (Or.inl rfl) (Uk (Zu (pv 0) rfl) T.cl_Rack T.m_Rack_first_start G_Rack_first_start (hr.mono (by decide)) T.B_Rack_first_start .nil ZE))))))
     (Zh (YS (pv 0) (pv 2) rfl)
     (Zg (Zq (pv 3))))))))), ?_⟩
   refine ⟨_, rfl, t, rfl, hl, k0, fun ht => ?_⟩
   obtain ⟨hmu, k1⟩ := k1 ht
   refine ⟨_, rfl, _, _, _, _, _, rfl, b.book, T.cl_Book, T.n_Book_now, rfl, _, rfl, _, _, rfl, rfl, ?_⟩
   refine ⟨by decide, fun lr hlr => ?_⟩
   have hlr0 : H0 lr = none := b.same.free hlr
   have b1 := b.out (o := .lst []) (.inl hlr)
   refine ⟨_, rfl, _, _, _, _, _, rfl, b1.book, T.cl_Book, T.n_Book_rack, rfl, _, _, _, rfl, b1.rack, rfl, ?_⟩
   refine ⟨A, sl, _, B, v.S, v.n, B.now, get B.ticks, rfl, b1, ok.geo, ok.rack, fun x hx => ?_⟩
   refine ⟨fun m σ Hi => ∃ x sl' H1 Bi rs, σ = [some (.ref (A.ad .book)), some (.int t), some (.int (B.now + t)), some (.ref lr), some x] ∧ Going (clOf a) A sl' H0 B v.S v.n (B.now + t) lr Hi H1 Bi rs x ∧ m = (B.now + t - Bi.now).toNat,
     ⟨_, x, sl, _, B, [], rfl, ⟨b1, Same.upd hlr0, ⟨[], rfl, Zb, fun q hq => by cases hq⟩, ok, rfl, rfl, by omega, .nil, hx⟩, rfl⟩, ?_⟩
   rintro m σ Hi ⟨x, sl', H1, Bi, rs, rfl, g, rfl⟩
   have mu2 : rs.length + muF (B.now + t) 63 (wait Bi) ≤ 1000000 := by
     have := (g.steps.good ok.out.good).2
     rw [e1, e3] at *
     omega
   have fin : (∀ k y, get Bi.ticks k = some y → B.now + t < st v.S v.n Bi.now y) → ∀ (H2 : Hp), Bk (clOf a) A sl' H1 H2 { Bi with now := B.now + t } → Q (.ref lr) H2 := fun hb H2 b2 => by
     have hS := g.ok.rack.pS
     refine k1 H2 H1 lr rs (wait Bi) g.same hlr0 g.rng ⟨A, sl', _, rfl, b2, ⟨g.ok.geo.up rfl rfl rfl, g.ok.rack.later g.le hb, g.ok.out.nowS _, by show 0 ≤ B.now + t; have := ok.nn; omega⟩, by show B.now + t = v.now + t; rw [e1], g.nx.trans e2, rfl, g.rst.trans e4⟩ ?_
     rw [← e1, ← e3]
     refine g.steps.stop fun k al hal => ?_
     obtain ⟨_, _, h3⟩ := alarm_some.mp hal
     have := hb k _ h3
     have := Sn hS v.n Bi.now al.tick
     omega
   rcases g.st with ⟨hn, rfl⟩ | ⟨mm, hm, rfl⟩
   · refine ⟨_, rfl, rfl, _, rfl, iteF ?_⟩
     refine iteF ?_
     refine ⟨_, rfl, _, rfl, _, _, _, _, rfl, g.bk.book, T.cl_Book, T.n_Book_now, (by show 7 < 1000; decide), ?_⟩
     exact ⟨_, rfl, fin (fun k y e => by rw [hn k] at e; cases e) _ (g.bk.wNow _)⟩
   · refine ⟨_, rfl, rfl, _, rfl, iteT ?_⟩
     refine ⟨_, rfl, _, rfl, _, _, rfl, rfl, _, rfl, ?_⟩
     refine ite2 (fun c => ?_) (fun c => ?_)
     · have c' : mm ≤ B.now + t := of_decide_eq_true c
       have hlt : Bi.now < mm := by
         obtain ⟨k', t', h1, h2⟩ := hm.one
         rw [← h2]
         exact lt_st g.ok.rack.pS (g.ok.rack.ahead k' t' h1)
       refine ⟨fun σ' H' => ∃ x sl' H1 Bi' rs, σ' = [some (.ref (A.ad .book)), some (.int t), some (.int (B.now + t)), some (.ref lr), some x] ∧ Going (clOf a) A sl' H0 B v.S v.n (B.now + t) lr H' H1 Bi' rs x ∧ Bi.now < Bi'.now, fun σ' H' ⟨x, sl2, H2, Bi', rs2, h1, h2, h3⟩ => ⟨_, ?_, x, sl2, H2, Bi', rs2, h1, h2, rfl⟩, ?_⟩
       · have := h2.le
         have := g.le
         omega
       · obtain ⟨qs, eq, hql, hqt⟩ := id g.rng
         refine ⟨_, rfl, .inl ⟨rfl, _, SqL.of (g.bk.same _ _ hql)⟩, _, rfl, _, rfl, ?_⟩
         refine ⟨A, sl', H1, Bi, v.S, v.n, mm, B.now + t, rfl, g.bk, g.ok, hm, c', fun H2 sl2 H3 B3 l3 rs3 s3 hl3 r3 b3 ok3 n3 nx3 rst3 st3 len3 => ?_⟩
         obtain ⟨qs3, eq3, hql3, hqt3⟩ := r3
         have hq1 : H3 lr = _ := s3 _ _ hql
         have hll : qs.length = rs.length := by rw [← eq, List.length_map]
         have hll3 : qs3.length = rs3.length := by rw [← eq3, List.length_map]
         have b4 := b3.out (x := lr) (o := .lst ((qs.map fun q => V.ref q.1) ++ (qs3.map fun q => V.ref q.1))) (.inr ⟨_, hq1⟩)
         refine ⟨_, _, _, _, rfl, rfl, b3.same _ _ hq1, b3.same _ _ hql3, (by rw [List.length_map, List.length_map]; have : (1000063 : Nat) ≤ sizeLine := by decide
                                                                              omega), ?_⟩
         refine ⟨_, rfl, _, _, _, _, _, rfl, b4.book, T.cl_Book, T.n_Book_rack, rfl, _, _, _, rfl, b4.rack, rfl, ?_⟩
         refine ⟨A, sl2, _, B3, v.S, v.n, B3.now, get B3.ticks, rfl, b4, ok3.geo, ok3.rack, fun x hx => ?_⟩
         refine ⟨x, sl2, _, B3, rs ++ rs3, rfl, ⟨b4, fun y u hy => ?_, ?_, ok3, nx3.trans g.nx, rst3.trans g.rst, by omega, g.steps.trans st3, hx⟩, by omega⟩
         · rw [Zc (Zn hy hlr0)]
           exact s3 _ _ (g.same _ _ hy)
         · rw [← eq, ← eq3]
           exact RingsAt.cat hq1 (fun q hq => s3 _ _ (hqt q hq)) hqt3
     · have c' : ¬ mm ≤ B.now + t := fun z => c (decide_eq_true z)
       refine ⟨_, rfl, _, rfl, _, _, _, _, rfl, g.bk.book, T.cl_Book, T.n_Book_now, (by show 7 < 1000; decide), ?_⟩
       exact ⟨_, rfl, fin (fun k y e => by have := hm.least k y e; omega) _ (g.bk.wNow _)⟩
def spSet (c : Cl) (Past : Addr) : Sp := fun vs H Q E => ∃ (H0 : Hp) (p : Addr) (v : Vw) (x : Str) (due : Int) (sp : Option Int), vs = [.ref p, .str x, .int due, Vc sp] ∧ BookAt c H0 H p v ∧ Lg due ∧ (∀ s, sp = some s → Lg s) ∧ v.next < 63 ∧
 ((due ≤ v.now ∨ ∃ s, sp = some s ∧ s < 1) → E (.ref Past) none H) ∧ (v.now < due → (∀ s, sp = some s → 1 ≤ s) → ∀ H', BookAt c H0 H' p { v with next := v.next + 1, wait := fput v.wait v.next (some ⟨x, due, sp⟩) } → Q (.int v.next) H')
theorem sc_set_alarm : FnScope ["book", "name", "due", "step", "number"] ["book", "name", "due", "step"] (Zd Xm) := Zw
theorem Qo (T : Txt K mg a) : FnOk P w K mg base (CXe P w) 5 a.f_set_alarm a.fd_set_alarm ["book", "name", "due", "step"] (spSet (clOf a) a.C_Past) := by
 have G_check_tick := UM (P := P) (w := w) (base := base) T
 have G_check_step := Rj (P := P) (w := w) (base := base) T
 have G_start_waiting := YD (P := P) (w := w) (base := base) T
 refine T.F_set_alarm.okE sc_set_alarm (fun vs H Q E h => ?_) (fun cdv A' outer s H vs Q E hr h => ?_)
 · obtain ⟨H0, p, v, x, due, sp, rfl, _⟩ := h
   rfl
 · obtain ⟨H0, p, v, x, due, sp, rfl, ⟨A, sl, B, rfl, b, ok, e1, e2, e3, e4⟩, hl1, hl2, h63, k0, k1⟩ := h
   have hu := YL hr
   refine ⟨_, (Zh (ZG (ZA G_check_tick (hr.mono (by decide)) rfl T.f_check_tick T.kp_check_tick T.B_check_tick .nil Ul (Za (pv 0) (Za (pv 2) Ze))))
     (Zh (ZG (ZA G_check_step (hr.mono (by decide)) rfl T.f_check_step T.kp_check_step T.B_check_step .nil Ul (Za (pv 3) Ze)))
     (Zh (Zz (i := 4) sc_set_alarm.nd rfl (Or.inl rfl) (Zu (pv 0) rfl))
     (Zh (YS (pv 0) (Zp Yg (pv 4) Zf) rfl)
     (Zh (YI hu (Zu (pv 0) rfl) (pv 4) (pv 1) rfl)
     (Zh (YI hu (Zu (pv 0) rfl) (pv 4) (pv 3) rfl)
     (Zh (ZG (ZA G_start_waiting (hr.mono (by decide)) rfl T.f_start_waiting T.kp_start_waiting T.B_start_waiting .nil ZE (Za (pv 0) (Za (pv 4) (Za (pv 2) Ze)))))
     (Zg (Zq (pv 4)))))))))), ?_⟩
   refine ⟨_, rfl, _, rfl, A, sl, H0, B, due, rfl, b, hl1, fun z => k0 (.inl (by omega)), fun hd => ?_⟩
   refine ⟨_, rfl, sp, rfl, hl2, fun s z1 z2 => k0 (.inr ⟨s, z1, z2⟩), fun hs => ?_⟩
   have nx := ok.out.nx
   have lns := ok.out.lens
   refine ⟨_, rfl, _, _, _, _, _, rfl, b.book, T.cl_Book, T.n_Book_next_number, rfl, ?_⟩
   refine ⟨_, rfl, _, _, rfl, rfl, _, rfl, _, _, _, _, rfl, b.book, T.cl_Book, T.n_Book_next_number, (by show 7 < 1000; decide), ?_⟩
   have b1 := b.wNext (B.next + 1)
   refine ⟨_, rfl, _, rfl, _, _, _, _, _, rfl, b1.book, T.cl_Book, T.n_Book_names, rfl, _, rfl, _, _, rfl, b1.putN B.next x (by show B.names.length ≤ 1000; omega), ?_⟩
   have b2 := b1.wNames (put B.names B.next x)
   refine ⟨_, rfl, _, rfl, _, _, _, _, _, rfl, b2.book, T.cl_Book, T.n_Book_steps, rfl, _, rfl, _, _, rfl, b2.putSt B.next sp (by show B.steps.length ≤ 1000; omega), ?_⟩
   have b3 := b2.wSteps (put B.steps B.next sp)
   refine ⟨_, rfl, _, rfl, _, rfl, ?_⟩
   obtain ⟨f1, f2, f3, f4⟩ := ok.out.fresh
   refine ⟨A, sl, H0, _, v.S, v.n, B.next, due, get B.ticks, rfl, b3, ok.geo.up rfl rfl rfl, ok.rack, f3, hd, nx.1, by omega, by show B.ticks.length ≤ 1000; omega, fun H4 sl4 rows4 b4 e5 R4 => ?_⟩
   refine ⟨_, rfl, ?_⟩
   rw [← e2] at k1
   refine k1 (by omega) hs H4 ⟨A, sl4, _, rfl, b4, ⟨ok.geo.up rfl rfl e5, ?_, (ok.out.setB (name := x) (due := due) (step := sp) (by omega) hs).rows rows4, ok.nn⟩, e1, rfl, ?_, ?_⟩
   · refine R4.congr fun k => ?_
     show gput (get B.ticks) B.next (some due) k = get (put B.ticks B.next due) k
     rw [ZB]
     rfl
   · rw [← e3]
     exact ok.out.wait_setB
   · rw [← e4]
     exact ok.out.rest_setB (due := due)
theorem mapK_pairs {α : Type} (f : α → V) (t : Dct α) : mapK (fun _ x => f x) t = (t.map fun p => (p.1, f p.2)).map fun p => (Sum.inl p.1, p.2) := by
 unfold mapK
 rw [List.map_map]
 rfl
theorem keys_some {α : Type} {t : Dct α} {x : Int} : x ∈ keys t ↔ (get t x).isSome = true := by
 cases e : get t x with
 | none => simp [get_none.mp e]
 | some v =>
   simp
   rcases Classical.em (x ∈ keys t) with z | z
   · simpa [keys] using z
   · rw [get_none.mpr z] at e; cases e
def spDue (c : Cl) (NotThere : Addr) : Sp := fun vs H Q E => ∃ (H0 : Hp) (p : Addr) (v : Vw) (k : Int), vs = [.ref p, .int k] ∧ BookAt c H0 H p v ∧ Lg k ∧ (v.wait k = none → E (.ref NotThere) none H) ∧ ∀ al, v.wait k = some al → Q (.int al.tick) H
theorem sc_Book_due : FnScope ["self", "number"] ["self", "number"] (Zd XO) := Zw
theorem Uq (T : Txt K mg a) : FnOk P w K mg base (CXe P w) 1 a.f_Book_due a.fd_Book_due ["self", "number"] (spDue (clOf a) a.C_NotThere) := by
 refine T.F_Book_due.okE sc_Book_due (fun vs H Q E h => ?_) (fun cdv A' outer s H vs Q E hr h => ?_)
 · obtain ⟨H0, p, v, k, rfl, _⟩ := h
   rfl
 · obtain ⟨H0, p, v, k, rfl, ⟨A, sl, B, rfl, b, ok, e1, e2, e3, e4⟩, hl, k0, k1⟩ := h
   have hu := YL hr
   refine ⟨_, (Zh (ZI (VQ (Vi hu (pv 1) (Zu (pv 0) rfl))) (Zg (XW TJ rfl rfl T.c_NotThere T.x_NotThere (Za (Vu (YO (XX (pv 1) (YO Uj)))) Ze))) Zy)
     (Zg (Zq (Zs hu (Zu (pv 0) rfl) (pv 1) (fun _ _ => rfl))))), ?_⟩
   have g := b.getT k
   refine ⟨_, rfl, _, rfl, _, _, _, _, _, rfl, b.book, T.cl_Book, T.n_Book_ticks, rfl, _, _, rfl, g, _, rfl, ?_⟩
   have tk := ok.out.tick_of k
   rw [e3] at tk
   cases e : get B.ticks k with
   | none =>
     rw [e] at tk
     have : v.wait k = none := by simpa using tk
     exact iteT ⟨_, rfl, _, rfl, hl, fun y => ⟨by show 1 ≤ sizeLine; decide, k0 this⟩⟩
   | some t =>
     rw [e] at g tk
     cases e6 : v.wait k with
     | none => rw [e6] at tk; cases tk
     | some al =>
       rw [e6] at tk
       have e7 : al.tick = t := by simpa using tk
       refine iteF ⟨_, rfl, _, _, _, _, _, rfl, b.book, T.cl_Book, T.n_Book_ticks, rfl, _, rfl, _, _, rfl, g, ?_⟩
       rw [← e7]
       exact k1 al e6
def Tm (S n : Int) : Prop := (2 ≤ S ∧ S ≤ 64) ∧ 1 ≤ n ∧ n ≤ 6
def Rb (Bad : Addr) : Sp := fun vs H Q E => ∃ (S n : Int), vs = [.int S, .int n] ∧ Lg S ∧ Lg n ∧ (¬ Tm S n → E (.ref Bad) none H) ∧ (Tm S n → Q .non H)
theorem TW : FnScope ["slots", "levels"] ["slots", "levels"] (Zd YA) := Zw
theorem TX (T : Txt K mg a) : FnOk P w K mg base (CXe P w) 1 a.f_check_wheels a.fd_check_wheels ["slots", "levels"] (Rb a.C_BadWheels) := by
 refine T.F_check_wheels.okE TW (fun vs H Q E h => ?_) (fun cdv A' outer s H vs Q E hr h => ?_)
 · obtain ⟨S, n, rfl, _⟩ := h
   rfl
 · obtain ⟨S, n, rfl, l1, l2, k0, k1⟩ := h
   refine ⟨_, (Zh (ZI (Ue (Zo Um (pv 0) (Vt T.k_FEWEST_SLOTS) (Zv _)) (VO (Zo op_gt (pv 0) (Vt T.k_MOST_SLOTS) (Zv _)))).pt
       (Zg (XW TJ rfl rfl T.c_BadWheels T.x_BadWheels (Za (Vu (YO (XX (Vt T.k_FEWEST_SLOTS) (YO (XX (Vt T.k_MOST_SLOTS) (YO (XX (pv 0) Uj))))))) Ze))) Zy)
     (Zg (ZI (Ue (Zo Um (pv 1) (Vt T.k_FEWEST_LEVELS) (Zv _)) (VO (Zo op_gt (pv 1) (Vt T.k_MOST_LEVELS) (Zv _)))).pt
       (Zg (XW TJ rfl rfl T.c_BadWheels T.x_BadWheels (Za (Vu (YO (XX (Vt T.k_FEWEST_LEVELS) (YO (XX (Vt T.k_MOST_LEVELS) (YO (XX (pv 1) Uj))))))) Ze))) Zy))), ?_⟩
   have b2 : Lg 2 := by unfold Lg; decide
   have b64 : Lg 64 := by unfold Lg; decide
   have b1 : Lg 1 := by unfold Lg; decide
   have b6 : Lg 6 := by unfold Lg; decide
   have z1 : ∀ y : Str, [V.str y].length ≤ sizeLine := fun y => by show 1 ≤ sizeLine; decide
   refine ⟨_, rfl, _, _, rfl, rfl, _, rfl, ite2 (fun c => iteT ?_) (fun c => ?_)⟩
   · have c' : S < 2 := of_decide_eq_true c
     exact ⟨_, rfl, b2, _, rfl, b64, _, rfl, _, rfl, l1, fun y => ⟨z1 y, k0 fun z => by have := z.1.1; omega⟩⟩
   · have c' : ¬ S < 2 := fun z => c (decide_eq_true z)
     refine ⟨_, rfl, _, _, rfl, rfl, _, rfl, ite2 (fun d => ?_) (fun d => ?_)⟩
     · have d' : 64 < S := of_decide_eq_true d
       exact ⟨_, rfl, b2, _, rfl, b64, _, rfl, _, rfl, l1, fun y => ⟨z1 y, k0 fun z => by have := z.1.2; omega⟩⟩
     · have d' : ¬ 64 < S := fun z => d (decide_eq_true z)
       refine ⟨_, rfl, _, _, rfl, rfl, _, rfl, ite2 (fun e => iteT ?_) (fun e => ?_)⟩
       · have e' : n < 1 := of_decide_eq_true e
         exact ⟨_, rfl, b1, _, rfl, b6, _, rfl, _, rfl, l2, fun y => ⟨z1 y, k0 fun z => by have := z.2.1; omega⟩⟩
       · have e' : ¬ n < 1 := fun z => e (decide_eq_true z)
         refine ⟨_, rfl, _, _, rfl, rfl, _, rfl, ite2 (fun g => ?_) (fun g => ?_)⟩
         · have g' : 6 < n := of_decide_eq_true g
           exact ⟨_, rfl, b1, _, rfl, b6, _, rfl, _, rfl, l2, fun y => ⟨z1 y, k0 fun z => by have := z.2.2; omega⟩⟩
         · have g' : ¬ 6 < n := fun z => g (decide_eq_true z)
           exact k1 ⟨⟨by omega, by omega⟩, by omega, by omega⟩
def spSlotSpans : Sp := fun vs H Q _ => ∃ (S : Int) (n : Nat), vs = [.int S, .int n] ∧ 2 ≤ S ∧ S ≤ 64 ∧ 1 ≤ n ∧ n ≤ 6 ∧ ∀ (H' : Hp) (l : Addr), H l = none → Same H H' → H' l = some (.lst ((ZC S n).map V.int)) → Q (.ref l) H'
theorem sc_slot_spans : FnScope ["slots", "levels", "spans", "level"] ["slots", "levels"] (Zd YU) := Zw
theorem Sr {S : Int} {n i : Nat} (h : i < n) : (ZC S n)[i]? = some (S ^ i) := by
 unfold ZC
 rw [List.getElem?_map, List.getElem?_range h]
 rfl
theorem So {S : Int} {n : Nat} : ZC S (n + 1) = ZC S n ++ [S ^ n] := by
 unfold ZC
 rw [List.range_succ, List.map_append]
 rfl
theorem Rh (T : Txt K mg a) : FnOk P w K mg base (CXe P w) 1 a.f_slot_spans a.fd_slot_spans ["slots", "levels"] spSlotSpans := by
 refine T.F_slot_spans.okN sc_slot_spans (fun vs H Q E h => ?_) (fun cdv A' outer s H vs Q E hr h => ?_)
 · obtain ⟨S, n, rfl, _⟩ := h
   rfl
 · obtain ⟨S, n, rfl, h1, h2, h3, h4, k⟩ := h
   refine ⟨_, (Zh (Zz (i := 2) sc_slot_spans.nd rfl (Or.inl rfl) (Yr (Za Zf Ze)))
     (Zh (Vp PassesOwn.never rfl (pi_range2 rfl T.b_range (Za Zf (Za (pv 1) Ze))) (Yk (i := 3) sc_slot_spans.nd rfl (Or.inl rfl)) (Zg (ZG (VH F.plainAttrs_list F.slot_list_append F.type_list_append Vj (pv 2) (Za (Zp Xj (ZD Yo (pv 2) (Zp XY (pv 3) Zf) (fun _ _ => rfl)) (pv 0)) Ze)))))
     (Zg (Zq (pv 2))))), ?_⟩
   refine ⟨by decide, fun l hl => ?_⟩
   refine ⟨_, rfl, 1, n, rfl, ⟨by decide, by decide, by omega, by omega⟩, ?_⟩
   refine Vk (lo := 1) (n := ((n : Int) - 1).toNat) (fun i σ Hi => ∃ x, σ = [some (.int S), some (.int n), some (.ref l), x] ∧ Same H Hi ∧ Hi l = some (.lst ((ZC S (i + 1)).map V.int))) ⟨_, rfl, Same.upd hl, ?_⟩ ?_ ?_
   · rw [Zb]
     simp [ZC]
   · rintro i σ Hi hi ⟨x, rfl, s1, hi1⟩
     obtain ⟨p1, p2⟩ := XR h1 h2 (i := i) (by omega)
     refine ⟨_, rfl, .inl ⟨rfl, _, SqL.of hi1⟩, _, rfl, _, rfl, _, _, rfl, rfl, _, _, _, .int (S ^ i), rfl, rfl, SqL.of hi1, ?_, ?_⟩
     · rw [show (1 + (i : Int)) - 1 = ((i : Nat) : Int) by omega]
       exact VA (by rw [List.getElem?_map, Sr (by omega)]; rfl)
     · refine ⟨_, rfl, _, _, rfl, rfl, .inl ⟨by omega, Int.lt_of_le_of_lt p2 (by decide)⟩, ?_⟩
       refine ⟨_, _, _, rfl, rfl, hi1, Vl (by rw [List.length_map]; unfold ZC; rw [List.length_map, List.length_range]; omega), ?_⟩
       refine ⟨_, rfl, fun b o e => ?_, ?_⟩
       · rw [Zc (Zn e hl)]
         exact s1 b o e
       · rw [Zb, So (n := i + 1), List.map_append, Int.pow_succ]
         rfl
   · rintro σ Hi ⟨x, rfl, s1, hi1⟩
     rw [show ((n : Int) - 1).toNat + 1 = n by omega] at hi1
     exact ⟨_, rfl, k Hi l hl s1 hi1⟩
def RZ (c : Cl) (Bad : Addr) : Sp := fun vs H Q E => ∃ (p dx : Addr) (S n : Int), vs = [.ref p, .int S, .int n] ∧ Lg S ∧ Lg n ∧ H p = some (.ins c.Wheels dx []) ∧ (¬ Tm S n → E (.ref Bad) none H) ∧
 (Tm S n → ∀ (H' : Hp) (tp : Addr), H tp = none → H' p = some (.ins c.Wheels dx (Xg S tp)) → H' tp = some (.tup ((ZC S n.toNat).map V.int)) → (∀ b o, H b = some o → b ≠ p → H' b = some o) → Q .non H')
theorem Sv : FnScope ["self", "slots", "levels"] ["self", "slots", "levels"] (Zd Yd) := Zw
theorem SE (T : Txt K mg a) : FnOk P w K mg base (CXe P w) 2 a.f_Wheels___init__ a.fd_Wheels___init__ ["self", "slots", "levels"] (RZ (clOf a) a.C_BadWheels) := by
 have G_check_wheels := TX (P := P) (w := w) (base := base) T
 have G_slot_spans := Rh (P := P) (w := w) (base := base) T
 refine T.F_Wheels___init__.okE Sv (fun vs H Q E h => ?_) (fun cdv A' outer s H vs Q E hr h => ?_)
 · obtain ⟨p, dx, S, n, rfl, _⟩ := h
   rfl
 · obtain ⟨p, dx, S, n, rfl, l1, l2, hp, k0, k1⟩ := h
   refine ⟨_, (Zh (ZG (ZA G_check_wheels (hr.mono (by decide)) rfl T.f_check_wheels T.kp_check_wheels T.B_check_wheels .nil Ul (Za (pv 1) (Za (pv 2) Ze))))
     (Zh (YS (pv 0) (pv 1) rfl)
     (Zg (YS (pv 0) (UF Rr rfl T.b_tuple PyProof.Rows.boot_tuple (Za (ZA G_slot_spans (hr.mono (by decide)) rfl T.f_slot_spans T.kp_slot_spans T.B_slot_spans .nil ZE (Za (pv 1) (Za (pv 2) Ze))) Ze)) rfl)))), ?_⟩
   refine ⟨_, rfl, _, rfl, S, n, rfl, l1, l2, k0, fun g => ?_⟩
   obtain ⟨⟨g1, g2⟩, g3, g4⟩ := id g
   refine ⟨_, rfl, _, rfl, p, _, dx, [], rfl, hp, T.cl_Wheels, T.n_Wheels_slots, (by show 0 < 1000; decide), ?_⟩
   have en : ((n.toNat : Nat) : Int) = n := by omega
   refine ⟨_, rfl, _, rfl, S, n.toNat, (by rw [en]; rfl), g1, g2, by omega, by omega, fun H1 l hl s1 hl1 => ?_⟩
   have npl : p ≠ l := fun z => by rw [← z, Zb] at hl; cases hl
   have hp1 := s1 p _ Zb
   refine ⟨_, _, rfl, .inl ⟨SqL.of hl1, fun tp htp => ?_⟩⟩
   have htp0 : H tp = none := by
     have q : (upd H p (.ins a.C_Wheels dx (putF "slots" (.int S) []))) tp = none := s1.free htp
     rw [Zc (fun z => by rw [z, Zb] at q; cases q)] at q
     exact q
   have npt : p ≠ tp := fun z => by rw [← z, hp1] at htp; cases htp
   refine ⟨_, rfl, p, _, dx, _, rfl, (by rw [Zc npt]; exact hp1), T.cl_Wheels, T.n_Wheels_spans, (by show 1 < 1000; decide), ?_⟩
   refine k1 g _ tp htp0 Zb ?_ fun b o e hb => ?_
   · rw [Zc npt.symm, Zb]
   · rw [Zc hb, Zc (fun z => by rw [z, htp0] at e; cases e)]
     exact s1 b o (by rw [Zc hb]; exact e)
end Tk
end
section
namespace Tb
open PySem L2 Mir Rk
structure Pt (ad : Lb → Addr) (H0 H : Hp) (ct : Lb → Option HO) : Prop where
 same : Same H0 H
 free : ∀ l o, ct l = some o → H0 (ad l) = none
 here : ∀ l o, ct l = some o → H (ad l) = some o
 inj : ∀ l l' o o', ct l = some o → ct l' = some o' → ad l = ad l' → l = l'
def lput {α : Type} (f : Lb → α) (l : Lb) (x : α) : Lb → α := fun l' => if l' = l then x else f l'
theorem Zm {α : Type} {f : Lb → α} {l : Lb} {x : α} : lput f l x l = x := by simp [lput]
theorem Zi {α : Type} {f : Lb → α} {l l' : Lb} {x : α} (h : l' ≠ l) : lput f l x l' = f l' := by simp [lput, h]
section
variable {ad : Lb → Addr} {H0 H H' : Hp} {ct : Lb → Option HO}
theorem Pt.up (p : Pt ad H0 H ct) (s : Same H H') : Pt ad H0 H' ct := ⟨p.same.trans s, p.free, fun l o h => s _ _ (p.here l o h), p.inj⟩
theorem Pt.add (p : Pt ad H0 H ct) {l : Lb} {x : Addr} {o : HO} (hl : ct l = none) (hx : H x = none) (s : Same H H') (ho : H' x = some o) : Pt (lput ad l x) H0 H' (lput ct l (some o)) := by
 have ne : ∀ l' u, ct l' = some u → l' ≠ l := fun l' u h z => by rw [z, hl] at h; cases h
 have nx : ∀ l' u, ct l' = some u → ad l' ≠ x := fun l' u h z => by have := p.here l' u h; rw [z, hx] at this; cases this
 refine ⟨p.same.trans s, fun l' u h => ?_, fun l' u h => ?_, fun l1 l2 o1 o2 h1 h2 z => ?_⟩
 · by_cases e : l' = l
   · subst e
     rw [Zm]
     exact p.same.free hx
   · rw [Zi e] at h ⊢
     exact p.free l' u h
 · by_cases e : l' = l
   · subst e
     rw [Zm] at h ⊢
     cases h
     exact ho
   · rw [Zi e] at h ⊢
     exact s _ _ (p.here l' u h)
 · by_cases e1 : l1 = l
   · by_cases e2 : l2 = l
     · rw [e1, e2]
     · subst e1
       rw [Zi e2] at h2
       rw [Zm, Zi e2] at z
       exact (nx l2 o2 h2 z.symm).elim
   · rw [Zi e1] at h1 z
     by_cases e2 : l2 = l
     · subst e2
       rw [Zm] at z
       exact (nx l1 o1 h1 z).elim
     · rw [Zi e2] at h2 z
       exact p.inj l1 l2 o1 o2 h1 h2 z
theorem Pt.write (p : Pt ad H0 H ct) {l : Lb} {o o' : HO} (hl : ct l = some o) : Pt ad H0 (upd H (ad l) o') (lput ct l (some o')) := by
 have back : ∀ l' u, lput ct l (some o') l' = some u → ∃ v, ct l' = some v := fun l' u h => by
   by_cases e : l' = l
   · exact ⟨o, e ▸ hl⟩
   · rw [Zi e] at h; exact ⟨u, h⟩
 refine ⟨fun x u h => ?_, fun l' u h => ?_, fun l' u h => ?_, fun l1 l2 o1 o2 h1 h2 z => ?_⟩
 · have := p.free l o hl
   rw [Zc (fun z => by rw [z, this] at h; cases h)]
   exact p.same x u h
 · obtain ⟨v, hv⟩ := back l' u h
   exact p.free l' v hv
 · by_cases e : l' = l
   · subst e
     rw [Zm] at h
     cases h
     exact Zb
   · rw [Zi e] at h
     rw [Zc (fun z => e (p.inj l' l u o h hl z))]
     exact p.here l' u h
 · obtain ⟨v1, hv1⟩ := back l1 o1 h1
   obtain ⟨v2, hv2⟩ := back l2 o2 h2
   exact p.inj l1 l2 v1 v2 hv1 hv2 z
theorem Pt.own {x : Addr} {o : HO} (s : Same H0 H) (h0 : H0 x = none) (hx : H x = some o) (l : Lb) : Pt (fun _ => x) H0 H (lput (fun _ => none) l (some o)) := by
 have at_ : ∀ l' u, lput (fun _ => none) l (some o) l' = some u → l' = l ∧ u = o := fun l' u h => by
   by_cases e : l' = l
   · subst e
     rw [Zm] at h
     cases h
     exact ⟨rfl, rfl⟩
   · rw [Zi e] at h
     cases h
 refine ⟨s, fun _ _ _ => h0, fun l' u h => ?_, fun l1 l2 o1 o2 h1 h2 _ => ?_⟩
 · obtain ⟨_, rfl⟩ := at_ l' u h
   exact hx
 · rw [(at_ l1 o1 h1).1, (at_ l2 o2 h2).1]
theorem Pt.adopt {x : Addr} {o : HO} (p : Pt ad (upd H0 x o) H ct) {l : Lb} (h0 : H0 x = none) (hl : ct l = none) : Pt (lput ad l x) H0 H (lput ct l (some o)) := by
 have nx : ∀ l' u, ct l' = some u → ad l' ≠ x := fun l' u h z => by have := p.free l' u h; rw [z, Zb] at this; cases this
 refine ⟨(Same.upd h0).trans p.same, fun l' u h => ?_, fun l' u h => ?_, fun l1 l2 o1 o2 h1 h2 z => ?_⟩
 · by_cases e : l' = l
   · subst e
     rw [Zm]
     exact h0
   · rw [Zi e] at h ⊢
     have := p.free l' u h
     rw [Zc (nx l' u h)] at this
     exact this
 · by_cases e : l' = l
   · subst e
     rw [Zm] at h ⊢
     cases h
     exact p.same _ _ Zb
   · rw [Zi e] at h ⊢
     exact p.here l' u h
 · by_cases e1 : l1 = l
   · by_cases e2 : l2 = l
     · rw [e1, e2]
     · subst e1
       rw [Zi e2] at h2
       rw [Zm, Zi e2] at z
       exact (nx l2 o2 h2 z.symm).elim
   · rw [Zi e1] at h1 z
     by_cases e2 : l2 = l
     · subst e2
       rw [Zm] at z
       exact (nx l1 o1 h1 z).elim
     · rw [Zi e2] at h2 z
       exact p.inj l1 l2 o1 o2 h1 h2 z
theorem Pt.congr {ct' : Lb → Option HO} (p : Pt ad H0 H ct) (h : ∀ l, ct l = ct' l) : Pt ad H0 H ct' := by
 have : ct = ct' := funext h
 exact this ▸ p
theorem Pt.side (p : Pt ad H0 H ct) {x : Addr} {o : HO} (h0 : H0 x = none) (hx : ∀ l u, ct l = some u → ad l ≠ x) : Pt ad H0 (upd H x o) ct :=
 ⟨fun y u h => by rw [Zc (Zn h h0)]; exact p.same y u h, p.free, fun l u h => by rw [Zc (hx l u h)]; exact p.here l u h, p.inj⟩
def ctRk (c : Cl) (ad dx : Lb → Addr) (F : List (Str × V)) (S : Int) (sp : List Int) (m : Nat) (rl : Bool) : Lb → Option HO
 | .rack => some (.ins c.Rack (dx .rack) F)
 | .wheels => some (.ins c.Wheels (dx .wheels) (Xg S (ad .spans)))
 | .spans => some (.tup (sp.map V.int))
 | .row i => if i < m then some (.ins c.Row (dx (.row i)) (rowF (S ^ i) (ad (.filled i)) (ad (.rising i)))) else none
 | .filled i => if i < m then some (.dK []) else none
 | .rising i => if i < m then some (.lst []) else none
 | .rows => if rl = true then some (.lst ((List.range m).map fun i => V.ref (ad (.row i)))) else none
 | _ => none
theorem Pt.addRow {c : Cl} {dx : Lb → Addr} {F : List (Str × V)} {S : Int} {sp : List Int} {m : Nat} (p : Pt ad H0 H (ctRk c ad dx F S sp m false)) {x d df lr : Addr} (hx : H x = none) (hd : d ≠ x) (hdf : H df = none) (hlr : H lr = none) (n1 : df ≠ x) (n2 : lr ≠ x) (n3 : df ≠ lr)
   (s : Same H H') (h1 : H' x = some (.ins c.Row d (rowF (S ^ m) df lr))) (h2 : H' df = some (.dK [])) (h3 : H' lr = some (.lst [])) :
   Pt (lput (lput (lput ad (.row m) x) (.filled m) df) (.rising m) lr) H0 H' (ctRk c (lput (lput (lput ad (.row m) x) (.filled m) df) (.rising m) lr) (lput dx (.row m) d) F S sp (m + 1) false) := by
 have sa : Same H (upd H x (.ins c.Row d (rowF (S ^ m) df lr))) := Same.upd hx
 have hdf1 : (upd H x (.ins c.Row d (rowF (S ^ m) df lr))) df = none := by rw [Zc n1]; exact hdf
 have sb := Same.upd (o := .dK []) hdf1
 have hlr1 : (upd (upd H x (.ins c.Row d (rowF (S ^ m) df lr))) df (.dK [])) lr = none := by rw [Zc n3.symm, Zc n2]; exact hlr
 have sc : Same (upd (upd H x (.ins c.Row d (rowF (S ^ m) df lr))) df (.dK [])) H' := fun y u h => by
   by_cases e1 : y = df
   · subst e1
     rw [Zb] at h
     cases h
     exact h2
   · rw [Zc e1] at h
     by_cases e2 : y = x
     · subst e2
       rw [Zb] at h
       cases h
       exact h1
     · rw [Zc e2] at h
       exact s y u h
 have q1 := p.add (l := .row m) (x := x) (by show (if m < m then _ else _) = _; rw [if_neg (Nat.lt_irrefl _)]) hx sa Zb
 have q2 := q1.add (l := .filled m) (x := df) (by rw [Zi (by intro z; cases z)]; show (if m < m then _ else _) = _; rw [if_neg (Nat.lt_irrefl _)]) hdf1 sb Zb
 have q3 := q2.add (l := .rising m) (x := lr) (by rw [Zi (by intro z; cases z), Zi (by intro z; cases z)]; show (if m < m then _ else _) = _; rw [if_neg (Nat.lt_irrefl _)]) hlr1 sc h3
 refine q3.congr fun l => ?_
 cases l with
 | row i =>
   rw [Zi (by intro z; cases z), Zi (by intro z; cases z)]
   by_cases e : i = m
   · subst e
     rw [Zm]
     show _ = if i < i + 1 then _ else _
     rw [if_pos (Nat.lt_succ_self _), Zm, Zi (by intro z; cases z), Zm, Zm]
   · have e1 : Lb.row i ≠ .row m := fun z => e (by injection z)
     rw [Zi e1]
     show (if i < m then _ else _) = if i < m + 1 then _ else _
     by_cases hi : i < m
     · have f1 : Lb.filled i ≠ .filled m := fun z => e (by injection z)
       have f2 : Lb.rising i ≠ .rising m := fun z => e (by injection z)
       rw [if_pos hi, if_pos (Nat.lt_succ_of_lt hi), Zi e1, Zi (by intro z; cases z), Zi f1, Zi (by intro z; cases z), Zi f2, Zi (by intro z; cases z), Zi (by intro z; cases z)]
     · rw [if_neg hi, if_neg (by omega)]
 | filled i =>
   rw [Zi (by intro z; cases z)]
   by_cases e : i = m
   · subst e
     rw [Zm]
     show _ = if i < i + 1 then _ else _
     rw [if_pos (Nat.lt_succ_self _)]
   · have e1 : Lb.filled i ≠ .filled m := fun z => e (by injection z)
     rw [Zi e1, Zi (by intro z; cases z)]
     show (if i < m then _ else _) = if i < m + 1 then _ else _
     by_cases hi : i < m
     · rw [if_pos hi, if_pos (Nat.lt_succ_of_lt hi)]
     · rw [if_neg hi, if_neg (by omega)]
 | rising i =>
   by_cases e : i = m
   · subst e
     rw [Zm]
     show _ = if i < i + 1 then _ else _
     rw [if_pos (Nat.lt_succ_self _)]
   · have e1 : Lb.rising i ≠ .rising m := fun z => e (by injection z)
     rw [Zi e1, Zi (by intro z; cases z), Zi (by intro z; cases z)]
     show (if i < m then _ else _) = if i < m + 1 then _ else _
     by_cases hi : i < m
     · rw [if_pos hi, if_pos (Nat.lt_succ_of_lt hi)]
     · rw [if_neg hi, if_neg (by omega)]
 | rack =>
   rw [Zi (by intro z; cases z), Zi (by intro z; cases z), Zi (by intro z; cases z)]
   show some (HO.ins c.Rack (dx .rack) F) = some (HO.ins c.Rack (lput dx (.row m) d .rack) F)
   rw [Zi (by intro z; cases z)]
 | wheels =>
   rw [Zi (by intro z; cases z), Zi (by intro z; cases z), Zi (by intro z; cases z)]
   show some (HO.ins c.Wheels (dx .wheels) (Xg S (ad .spans))) = some (HO.ins c.Wheels (lput dx (.row m) d .wheels) (Xg S (lput (lput (lput ad (.row m) x) (.filled m) df) (.rising m) lr .spans)))
   rw [Zi (by intro z; cases z), Zi (by intro z; cases z), Zi (by intro z; cases z), Zi (by intro z; cases z)]
 | spans => rfl
 | rows => rfl
 | book => rfl
 | names => rfl
 | steps => rfl
 | ticks => rfl
 | kept => rfl
 | slot i s => rfl
end
end Tb
end
section
namespace Tk
open PySem L2 Mir Rk Tb
open PyProof.Rows (boot_sorted boot_min boot_enumerate boot_isinstance boot_sum boot_max)
variable {P : Program} {w : World} {K : W.Frag} {mg : Str → Option Value} {base : Heap} {a : Ad}
def spRackInit (c : Cl) (Bad : Addr) : Sp := fun vs H Q E => ∃ (H0 : Hp) (p dxp : Addr) (S n : Int), vs = [.ref p, .int S, .int n] ∧ Lg S ∧ Lg n ∧ Same H0 H ∧ H0 p = none ∧ H p = some (.ins c.Rack dxp []) ∧ (¬ Tm S n → ∀ H', Same H0 H' → E (.ref Bad) none H') ∧
 (Tm S n → ∀ (H' : Hp) (ad dx : Lb → Addr), ad .rack = p → Pt ad H0 H' (ctRk c ad dx (Sw (ad .wheels) (ad .rows)) S (ZC S n.toNat) (n.toNat + 1) true) → Q .non H')
theorem sc_Rack_init : FnScope ["self", "slots", "levels", "spans"] ["self", "slots", "levels"] (Zd Yv) := Zw
theorem Qz (T : Txt K mg a) : FnOk P w K mg base (CXe P w) 4 a.f_Rack___init__ a.fd_Rack___init__ ["self", "slots", "levels"] (spRackInit (clOf a) a.C_BadWheels) := by
 have G_Wheels := SE (P := P) (w := w) (base := base) T
 have G_Row := ok_Row_init (P := P) (w := w) (base := base) T
 refine T.F_Rack___init__.okE sc_Rack_init (fun vs H Q E h => ?_) (fun cdv A' outer s H vs Q E hr h => ?_)
 · obtain ⟨H0, p, dxp, S, n, rfl, _⟩ := h
   rfl
 · obtain ⟨H0, p, dxp, S, n, rfl, l1, l2, s0, h0, hp, k0, k1⟩ := h
   refine ⟨_, (Zh (YS (pv 0) (Sd T.M_Wheels G_Wheels (hr.mono (by decide)) rfl T.c_Wheels T.B_Wheels___init__ .nil Ul (Za (pv 1) (Za (pv 2) Ze))) rfl)
     (Zh (Zz (i := 3) sc_Rack_init.nd rfl (Or.inl rfl) (UF QG rfl T.b_list PyProof.Rows.boot_list (Za (Zu (Zu (pv 0) rfl) rfl) Ze)))
     (Zh (ZG (VH F.plainAttrs_list F.slot_list_append F.type_list_append Vj (pv 3) (Za (Zp Xj (ZD Yo (pv 3) (Zp XY (pv 2) Zf) (fun _ _ => rfl)) (pv 1)) Ze)))
     (Zg (YS (pv 0) (SC (te := tMake a.C_Row (Rv (clOf a)) [] E0 (Rt (tVar 0) tNil)) (NB := ["span"]) (fv := [none]) (jx := 0) rfl (compOk_fnE rfl rfl (by decide +kernel)) (Sa (pv 3)) rfl rfl rfl (fun _ _ _ => Ui) (fun _ _ _ => Sd T.M_Row G_Row (hr.mono (by decide)) rfl T.c_Row T.B_Row___init__ .nil ZE (Za (pv 0) Ze))) rfl))))), ?_⟩
   refine ⟨_, rfl, _, rfl, fun x dx' hx hdx nx => ?_⟩
   have sA : Same H (upd (upd H dx' (.own x)) x (.ins a.C_Wheels dx' [])) := fun b o e => by
     rw [Zc (Zn e hx), Zc (Zn e hdx)]
     exact e
   refine ⟨x, dx', S, n, rfl, l1, l2, Zb, fun hb => k0 hb _ (s0.trans sA), fun g H1 tp htp e1 e2 e3 => ⟨rfl, ?_⟩⟩
   obtain ⟨⟨g1, g2⟩, g3, g4⟩ := id g
   have s1 : Same H H1 := fun b o e => e3 b o (sA b o e) (Zn e hx)
   have htpx : tp ≠ x := fun z => by rw [z, Zb] at htp; cases htp
   have htp0 : H tp = none := sA.free htp
   have en : ((n.toNat : Nat) : Int) = n := by omega
   have P0 := Pt.own s0 h0 hp .rack
   have P1 := P0.add (l := .wheels) (x := x) (o := .ins a.C_Wheels dx' (Xg S tp)) (Zi (by intro z; cases z)) hx (Same.upd hx) Zb
   have P2 := P1.add (H' := H1) (l := .spans) (x := tp) (o := .tup ((ZC S n.toNat).map V.int)) (by rw [Zi (by intro z; cases z), Zi (by intro z; cases z)]) (by rw [Zc htpx]; exact htp0) (fun y u h => by
     by_cases e : y = x
     · subst e
       rw [Zb] at h
       cases h
       exact e1
     · rw [Zc e] at h
       exact s1 y u h) e2
   have hp1 : H1 p = some (.ins a.C_Rack dxp []) := s1 _ _ hp
   refine ⟨_, rfl, p, _, dxp, _, rfl, hp1, T.cl_Rack, T.n_Rack_wheels, (by show 0 < 1000; decide), ?_⟩
   have P3 := P2.write (l := .rack) (o := .ins a.C_Rack dxp []) (o' := .ins a.C_Rack dxp [("wheels", .ref x)]) (by rw [Zi (by intro z; cases z), Zi (by intro z; cases z), Zm])
   have P3' : Pt (lput (lput (fun _ => p) .wheels x) .spans tp) H0 (upd H1 p (.ins a.C_Rack dxp [("wheels", .ref x)])) (ctRk (clOf a) (lput (lput (fun _ => p) .wheels x) .spans tp) (lput (fun _ => dx') .rack dxp) [("wheels", .ref x)] S (ZC S n.toNat) 0 false) := by
     refine P3.congr fun l => ?_
     cases l with
     | rack => rfl
     | wheels => rfl
     | spans => rfl
     | row i => rfl
     | filled i => rfl
     | rising i => rfl
     | rows => rfl
     | book => rfl
     | names => rfl
     | steps => rfl
     | ticks => rfl
     | kept => rfl
     | slot i s => rfl
   have hpR := P3'.here .rack _ rfl
   have hpW := P3'.here .wheels _ rfl
   have hpS := P3'.here .spans _ rfl
   refine ⟨_, rfl, _, _, _, _, _, rfl, hpR, T.cl_Rack, T.n_Rack_wheels, rfl, _, _, _, _, _, rfl, hpW, T.cl_Wheels, T.n_Wheels_spans, rfl, _, _, rfl, .inr (SqT.of hpS), fun ls hls => ?_⟩
   have P4 := P3'.up (Same.upd (o := .lst ((ZC S n.toNat).map V.int)) hls)
   have hn0 : ∀ l u, ctRk (clOf a) (lput (lput (fun _ => p) .wheels x) .spans tp) (lput (fun _ => dx') .rack dxp) [("wheels", .ref x)] S (ZC S n.toNat) 0 false l = some u → (lput (lput (fun _ => p) .wheels x) .spans tp) l ≠ ls := fun l u h z => by
     have q := P3'.here l u h
     have hls' : upd H1 p (HO.ins a.C_Rack dxp [("wheels", .ref x)]) ls = none := hls
     rw [z, hls'] at q
     cases q
   obtain ⟨p1, p2⟩ := XR g1 g2 (i := n.toNat - 1) (by omega)
   refine ⟨_, rfl, .inl ⟨rfl, _, SqL.of Zb⟩, _, rfl, _, rfl, _, _, rfl, rfl, _, _, _, .int (S ^ (n.toNat - 1)), rfl, rfl, SqL.of Zb, ?_, _, rfl, _, _, rfl, rfl, .inl ⟨by omega, Int.lt_of_le_of_lt p2 (by decide)⟩, ?_⟩
   · rw [show n - 1 = ((n.toNat - 1 : Nat) : Int) by omega]
     exact VA (by rw [List.getElem?_map, Sr (by omega)]; rfl)
   · refine ⟨_, _, _, rfl, rfl, Zb, Vl (by rw [List.length_map]; unfold ZC; rw [List.length_map, List.length_range]; omega), ?_⟩
     have eL : (ZC S n.toNat).map V.int ++ [V.int (S ^ (n.toNat - 1) * S)] = (ZC S (n.toNat + 1)).map V.int := by
       rw [So, List.map_append, ← Int.pow_succ, show (n.toNat - 1).succ = n.toNat by omega]
       rfl
     rw [show (fun i j => V.int (i * j)) (S ^ (n.toNat - 1)) S = V.int (S ^ (n.toNat - 1) * S) from rfl, eL]
     have hls0 : H0 ls = none := P3'.same.free hls
     have P5 := P4.side (x := ls) (o := .lst ((ZC S (n.toNat + 1)).map V.int)) hls0 hn0
     have lenS : ((ZC S (n.toNat + 1)).map V.int).length = n.toNat + 1 := by rw [List.length_map]; unfold ZC; rw [List.length_map, List.length_range]
     refine ⟨_, rfl, _, rfl, ⟨_, SqL.of Zb⟩, ?_⟩
     refine comp_list (K := K) (a := ls) (xs := (ZC S (n.toNat + 1)).map V.int) (fun i ys Hi => ∃ ad dx, ad .rack = p ∧ ad .wheels = x ∧ Pt ad H0 Hi (ctRk (clOf a) ad dx [("wheels", .ref x)] S (ZC S n.toNat) i false) ∧ ys = (List.range i).map (fun j => V.ref (ad (.row j))) ∧ Hi ls = some (.lst ((ZC S (n.toNat + 1)).map V.int)))
       ⟨_, _, rfl, rfl, P5, rfl, Zb⟩ (fun i ys Hi hi ⟨ad, dx, _, _, _, ey, hl⟩ => ⟨SqL.of hl, by rw [ey, List.length_map, List.length_range]; exact Vl (by omega)⟩) ?_ ?_
     · rintro i v ys Hi Q' hv ⟨ad, dx, ea1, ea2, Pi, rfl, hl⟩ kq
       have hi : i < n.toNat + 1 := by have := (List.getElem?_eq_some_iff.mp hv).1; omega
       have ev : v = V.int (S ^ i) := by
         rw [List.getElem?_map, Sr hi] at hv
         exact (Option.some.inj hv).symm
       subst ev
       refine ⟨_, rfl, fun xr dr hxr hdr nr => ⟨xr, dr, S ^ i, rfl, Zb, fun df lr H2 hdf hlr nfl f1 f2 f3 f4 => ⟨rfl, kq _ _ ?_⟩⟩⟩
       have sB : Same Hi (upd (upd Hi dr (.own xr)) xr (.ins a.C_Row dr [])) := fun b o e => by
         rw [Zc (Zn e hxr), Zc (Zn e hdr)]
         exact e
       have s2 : Same Hi H2 := fun b o e => f4 b o (sB b o e) (Zn e hxr)
       have ndf : df ≠ xr := fun z => by rw [z, Zb] at hdf; cases hdf
       have nlr : lr ≠ xr := fun z => by rw [z, Zb] at hlr; cases hlr
       have P6 := Pi.addRow hxr nr (sB.free hdf) (sB.free hlr) ndf nlr nfl s2 f1 f2 f3
       refine ⟨_, _, ?_, ?_, P6, ?_, s2 _ _ hl⟩
       · rw [Zi (by intro z; cases z), Zi (by intro z; cases z), Zi (by intro z; cases z)]; exact ea1
       · rw [Zi (by intro z; cases z), Zi (by intro z; cases z), Zi (by intro z; cases z)]; exact ea2
       · rw [List.range_succ, List.map_append]
         congr 1
         · apply List.map_congr_left
           intro j hj
           have hj' := List.mem_range.mp hj
           have e1 : Lb.row j ≠ .row i := fun z => by injection z with z; omega
           rw [Zi (by intro z; cases z), Zi (by intro z; cases z), Zi e1]
         · show [V.ref xr] = [V.ref _]
           rw [Zi (by intro z; cases z), Zi (by intro z; cases z), Zm]
     · rintro ys Hi ⟨ad, dx, ea1, ea2, Pi, rfl, hl⟩ acc hacc
       rw [lenS] at Pi ⊢
       have P7 := Pi.add (l := .rows) (x := acc) (o := .lst ((List.range (n.toNat + 1)).map (fun j => V.ref (ad (.row j))))) rfl hacc (Same.upd hacc) Zb
       have hr7 := P7.here .rack _ (by rw [Zi (by intro z; cases z)]; rfl)
       rw [Zi (by intro z; cases z), ea1] at hr7
       refine ⟨_, rfl, p, _, _, _, rfl, hr7, T.cl_Rack, T.n_Rack_rows, (by show 1 < 1000; decide), ?_⟩
       have P8 := P7.write (l := .rack) (o' := .ins a.C_Rack (dx .rack) (Sw x acc)) (by rw [Zi (by intro z; cases z)]; rfl)
       refine k1 g _ (lput ad .rows acc) dx (by rw [Zi (by intro z; cases z)]; exact ea1) ?_
       rw [Zi (by intro z; cases z), ea1] at P8
       refine P8.congr fun l => ?_
       cases l with
       | rack =>
         rw [Zm]
         show _ = some (HO.ins a.C_Rack (dx .rack) (Sw (lput ad .rows acc .wheels) (lput ad .rows acc .rows)))
         rw [Zi (by intro z; cases z), Zm, ea2]
       | wheels =>
         rw [Zi (by intro z; cases z), Zi (by intro z; cases z)]
         show some (HO.ins a.C_Wheels (dx .wheels) (Xg S (ad .spans))) = some (HO.ins a.C_Wheels (dx .wheels) (Xg S (lput ad .rows acc .spans)))
         rw [Zi (by intro z; cases z)]
       | spans => rfl
       | row i =>
         rw [Zi (by intro z; cases z), Zi (by intro z; cases z)]
         show (if i < _ then _ else _) = if i < _ then some (HO.ins a.C_Row (dx (.row i)) (rowF (S ^ i) (lput ad .rows acc (.filled i)) (lput ad .rows acc (.rising i)))) else none
         rw [Zi (by intro z; cases z), Zi (by intro z; cases z)]
       | filled i => rfl
       | rising i => rfl
       | rows =>
         rw [Zi (by intro z; cases z), Zm]
         show _ = some (HO.lst ((List.range (n.toNat + 1)).map fun i => V.ref (lput ad .rows acc (.row i))))
         congr 2
       | book => rfl
       | names => rfl
       | steps => rfl
       | ticks => rfl
       | kept => rfl
       | slot i s => rfl
def newB (S : Int) (n : Nat) : BkS := ⟨S, ZC S n, (List.range (n + 1)).map fun i => ⟨S ^ i, [], []⟩, 0, 0, [], [], [], []⟩
theorem VJ {S : Int} {n i : Nat} : (newB S n).rows[i]? = if i < n + 1 then some ⟨S ^ i, [], []⟩ else none := by
 show ((List.range (n + 1)).map fun i => (⟨S ^ i, [], []⟩ : RowS))[i]? = _
 rw [List.getElem?_map]
 by_cases h : i < n + 1
 · rw [List.getElem?_range h, if_pos h]
   rfl
 · rw [if_neg h, List.getElem?_eq_none (by rw [List.length_range]; omega)]
   rfl
theorem newB_ok {S : Int} {n : Nat} (h1 : 2 ≤ S) (h2 : S ≤ 64) (h3 : 1 ≤ n) (h4 : n ≤ 6) : BOK S n (newB S n) where
 geo := ⟨h1, h2, h3, h4, rfl, rfl, by show ((List.range (n + 1)).map _).length = _; rw [List.length_map, List.length_range]⟩
 rack := by
   have at_ : ∀ (i : Nat) r, (newB S n).rows[i]? = some r → r = ⟨S ^ i, [], []⟩ := fun i r e => by
     rw [VJ] at e
     by_cases h : i < n + 1
     · rw [if_pos h] at e; exact (Option.some.inj e).symm
     · rw [if_neg h] at e; cases e
   refine ⟨h1, by show ((List.range (n + 1)).map _).length = _; rw [List.length_map, List.length_range], fun i r e => by rw [at_ i r e], fun i r e => ?_, (fun k t e => by cases e), (fun k t e => by cases e)⟩
   rw [at_ i r e]
   refine ⟨Rk.pow_pos (by omega) i, List.nodup_nil, List.Pairwise.nil, (fun s => ⟨(fun h => by simp at h), (fun h => by cases h)⟩), (fun s ns h => by cases h), (fun s ns h => by cases h), (fun m s => ⟨(fun ⟨ns, h, _⟩ => by cases h), (fun ⟨t, h, _⟩ => by cases h)⟩)⟩
 out := ⟨List.nodup_nil, List.nodup_nil, List.nodup_nil, List.nodup_nil, ⟨Int.le_refl _, by show (0 : Int) ≤ 63; decide⟩, (fun k h => by cases h), (fun k => rfl), (fun k => rfl), (fun k s h => by cases h), (fun k h => by cases h), (fun k t h => by cases h)⟩
 nn := Int.le_refl _
theorem bk_of {c : Cl} {ad dx : Lb → Addr} {sl : Sl} {H0 H : Hp} {B : BkS} (p : Pt ad H0 H (cont c ⟨ad, dx⟩ sl B)) (hs : ∀ i s, cont c ⟨ad, dx⟩ sl B (.slot i s) = none) : Bk c ⟨ad, dx⟩ sl H0 H B := by
 have e : ∀ l o, cont c ⟨ad, dx⟩ sl B l = some o → loc ⟨ad, dx⟩ sl l = ad l := fun l o h => by
   cases l with
   | slot i s => rw [hs i s] at h; cases h
   | _ => rfl
 exact ⟨p.same, fun l o h => by rw [e l o h]; exact p.free l o h, fun l o h => by rw [e l o h]; exact p.here l o h, fun l1 l2 o1 o2 h1 h2 z => by rw [e l1 o1 h1, e l2 o2 h2] at z; exact p.inj l1 l2 o1 o2 h1 h2 z⟩
abbrev newV (S : Int) (n : Nat) : Vw := ⟨S, n, 0, 0, fun _ => none, fun _ => none⟩
def spBookInit (c : Cl) (Bad : Addr) : Sp := fun vs H Q E => ∃ (H0 : Hp) (p dxp : Addr) (S n : Int), vs = [.ref p, .int S, .int n] ∧ Lg S ∧ Lg n ∧ Same H0 H ∧ H0 p = none ∧ H p = some (.ins c.Book dxp []) ∧ (¬ Tm S n → ∀ H', Same H0 H' → E (.ref Bad) none H') ∧
 (Tm S n → ∀ (H' : Hp), BookAt c H0 H' p (newV S n.toNat) → Q .non H')
theorem Qg : FnScope ["self", "slots", "levels"] ["self", "slots", "levels"] (Zd Yw) := Zw
theorem QB (T : Txt K mg a) : FnOk P w K mg base (CXe P w) 6 a.f_Book___init__ a.fd_Book___init__ ["self", "slots", "levels"] (spBookInit (clOf a) a.C_BadWheels) := by
 have G_Rack := Qz (P := P) (w := w) (base := base) T
 refine T.F_Book___init__.okE Qg (fun vs H Q E h => ?_) (fun cdv A' outer s H vs Q E hr h => ?_)
 · obtain ⟨H0, p, dxp, S, n, rfl, _⟩ := h
   rfl
 · obtain ⟨H0, p, dxp, S, n, rfl, l1, l2, s0, h0, hp, k0, k1⟩ := h
   refine ⟨_, (Zh (YS (pv 0) (Sd T.M_Rack G_Rack (hr.mono (by decide)) rfl T.c_Rack T.B_Rack___init__ .nil Ul (Za (pv 1) (Za (pv 2) Ze))) rfl)
     (Zh (YS (pv 0) Zf rfl)
     (Zh (YS (pv 0) Zf rfl)
     (Zh (YS (pv 0) XA rfl)
     (Zh (YS (pv 0) XA rfl)
     (Zh (YS (pv 0) XA rfl)
     (Zg (YS (pv 0) XA rfl)))))))), ?_⟩
   refine ⟨_, rfl, _, rfl, fun x dx' hx hdx nx => ?_⟩
   have nxp : x ≠ p := fun z => by rw [z, hp] at hx; cases hx
   have sP : Same (upd H0 p (.ins a.C_Book dxp [])) H := fun b o e => by
     by_cases z : b = p
     · subst z
       rw [Zb] at e
       cases e
       exact hp
     · rw [Zc z] at e
       exact s0 b o e
   have sA : Same H (upd (upd H dx' (.own x)) x (.ins a.C_Rack dx' [])) := fun b o e => by
     rw [Zc (Zn e hx), Zc (Zn e hdx)]
     exact e
   refine ⟨upd H0 p (.ins a.C_Book dxp []), x, dx', S, n, rfl, l1, l2, sP.trans sA, (by rw [Zc nxp]; exact s0.free hx), Zb, fun hb H' sH => k0 hb H' ((Same.upd h0).trans sH), fun g H1 ad dx ea P0 => ⟨rfl, ?_⟩⟩
   obtain ⟨⟨g1, g2⟩, g3, g4⟩ := id g
   have P1 := P0.adopt (l := .book) h0 rfl
   have hb1 := P1.here .book _ Zm
   rw [Zm] at hb1
   refine ⟨_, rfl, p, _, _, _, rfl, hb1, T.cl_Book, T.n_Book_rack, (by show 0 < 1000; decide), ?_⟩
   have P2 := P1.write (l := .book) (o' := .ins a.C_Book dxp [("rack", .ref x)]) Zm
   rw [Zm] at P2
   have hb2 := P2.here .book _ Zm
   rw [Zm] at hb2
   refine ⟨_, rfl, p, _, _, _, rfl, hb2, T.cl_Book, T.n_Book_now, (by show 1 < 1000; decide), ?_⟩
   have P3 := P2.write (l := .book) (o' := .ins a.C_Book dxp [("rack", .ref x), ("now", .int 0)]) Zm
   rw [Zm] at P3
   have hb3 := P3.here .book _ Zm
   rw [Zm] at hb3
   refine ⟨_, rfl, p, _, _, _, rfl, hb3, T.cl_Book, T.n_Book_next_number, (by show 2 < 1000; decide), ?_⟩
   have P4 := P3.write (l := .book) (o' := .ins a.C_Book dxp [("rack", .ref x), ("now", .int 0), ("next_number", .int 0)]) Zm
   rw [Zm] at P4
   intro d1 hd1
   have P5 := P4.add (l := .names) (x := d1) (o := .dK []) rfl hd1 (Same.upd hd1) Zb
   have hb5 := P5.here .book _ (by rw [Zi (by intro z; cases z), Zm])
   rw [Zi (by intro z; cases z), Zm] at hb5
   refine ⟨_, rfl, p, _, _, _, rfl, hb5, T.cl_Book, T.n_Book_names, (by show 3 < 1000; decide), ?_⟩
   have P6 := P5.write (l := .book) (o' := .ins a.C_Book dxp [("rack", .ref x), ("now", .int 0), ("next_number", .int 0), ("names", .ref d1)]) (by rw [Zi (by intro z; cases z), Zm])
   rw [Zi (by intro z; cases z), Zm] at P6
   intro d2 hd2
   have P7 := P6.add (l := .steps) (x := d2) (o := .dK []) rfl hd2 (Same.upd hd2) Zb
   have hb7 := P7.here .book _ (by rw [Zi (by intro z; cases z), Zm])
   rw [Zi (by intro z; cases z), Zi (by intro z; cases z), Zm] at hb7
   refine ⟨_, rfl, p, _, _, _, rfl, hb7, T.cl_Book, T.n_Book_steps, (by show 4 < 1000; decide), ?_⟩
   have P8 := P7.write (l := .book) (o' := .ins a.C_Book dxp [("rack", .ref x), ("now", .int 0), ("next_number", .int 0), ("names", .ref d1), ("steps", .ref d2)]) (by rw [Zi (by intro z; cases z), Zm])
   rw [Zi (by intro z; cases z), Zi (by intro z; cases z), Zm] at P8
   intro d3 hd3
   have P9 := P8.add (l := .ticks) (x := d3) (o := .dK []) rfl hd3 (Same.upd hd3) Zb
   have hb9 := P9.here .book _ (by rw [Zi (by intro z; cases z), Zm])
   rw [Zi (by intro z; cases z), Zi (by intro z; cases z), Zi (by intro z; cases z), Zm] at hb9
   refine ⟨_, rfl, p, _, _, _, rfl, hb9, T.cl_Book, T.n_Book_ticks, (by show 5 < 1000; decide), ?_⟩
   have P10 := P9.write (l := .book) (o' := .ins a.C_Book dxp [("rack", .ref x), ("now", .int 0), ("next_number", .int 0), ("names", .ref d1), ("steps", .ref d2), ("ticks", .ref d3)]) (by rw [Zi (by intro z; cases z), Zm])
   rw [Zi (by intro z; cases z), Zi (by intro z; cases z), Zi (by intro z; cases z), Zm] at P10
   intro d4 hd4
   have P11 := P10.add (l := .kept) (x := d4) (o := .dK []) rfl hd4 (Same.upd hd4) Zb
   have hb11 := P11.here .book _ (by rw [Zi (by intro z; cases z), Zm])
   rw [Zi (by intro z; cases z), Zi (by intro z; cases z), Zi (by intro z; cases z), Zi (by intro z; cases z), Zm] at hb11
   refine ⟨_, rfl, p, _, _, _, rfl, hb11, T.cl_Book, T.n_Book_kept_ticks, (by show 6 < 1000; decide), ?_⟩
   have P12 := P11.write (l := .book) (o' := .ins a.C_Book dxp (SX x 0 0 d1 d2 d3 d4)) (by rw [Zi (by intro z; cases z), Zm])
   rw [Zi (by intro z; cases z), Zi (by intro z; cases z), Zi (by intro z; cases z), Zi (by intro z; cases z), Zm] at P12
   generalize hAd : lput (lput (lput (lput (lput ad .book p) .names d1) .steps d2) .ticks d3) .kept d4 = AD at P12
   have a1 : AD .book = p := by rw [← hAd]; rfl
   have a2 : AD .rack = x := by rw [← hAd]; exact ea
   have a3 : AD .names = d1 := by rw [← hAd]; rfl
   have a4 : AD .steps = d2 := by rw [← hAd]; rfl
   have a5 : AD .ticks = d3 := by rw [← hAd]; rfl
   have a6 : AD .kept = d4 := by rw [← hAd]; rfl
   have a7 : AD .wheels = ad .wheels := by rw [← hAd]; rfl
   have a8 : AD .rows = ad .rows := by rw [← hAd]; rfl
   have a9 : AD .spans = ad .spans := by rw [← hAd]; rfl
   have a10 : ∀ i, AD (.row i) = ad (.row i) := fun i => by rw [← hAd]; rfl
   have a11 : ∀ i, AD (.filled i) = ad (.filled i) := fun i => by rw [← hAd]; rfl
   have a12 : ∀ i, AD (.rising i) = ad (.rising i) := fun i => by rw [← hAd]; rfl
   have PB : Pt AD H0 _ (cont (clOf a) ⟨AD, lput dx .book dxp⟩ (fun _ _ => 0) (newB S n.toNat)) := P12.congr fun l => by
     cases l with
     | book =>
       rw [Zm]
       show _ = some (HO.ins a.C_Book _ (SX (AD .rack) 0 0 (AD .names) (AD .steps) (AD .ticks) (AD .kept)))
       rw [a2, a3, a4, a5, a6]
       rfl
     | rack =>
       show some (HO.ins a.C_Rack (dx .rack) (Sw (ad .wheels) (ad .rows))) = some (HO.ins a.C_Rack (dx .rack) (Sw (AD .wheels) (AD .rows)))
       rw [a7, a8]
     | wheels =>
       show some (HO.ins a.C_Wheels (dx .wheels) (Xg S (ad .spans))) = some (HO.ins a.C_Wheels (dx .wheels) (Xg S (AD .spans)))
       rw [a9]
     | spans => rfl
     | rows =>
       show some (HO.lst ((List.range (n.toNat + 1)).map fun i => V.ref (ad (.row i)))) = some (HO.lst ((List.range ((List.range (n.toNat + 1)).map _).length).map fun i => V.ref (AD (.row i))))
       rw [List.length_map, List.length_range]
       congr 2
       apply List.map_congr_left
       intro i _
       rw [a10]
     | row i =>
       show (if i < n.toNat + 1 then some (HO.ins a.C_Row (dx (.row i)) (rowF (S ^ i) (ad (.filled i)) (ad (.rising i)))) else none) = (newB S n.toNat).rows[i]?.map fun r => HO.ins a.C_Row (dx (.row i)) (rowF r.span (AD (.filled i)) (AD (.rising i)))
       rw [VJ, a11, a12]
       by_cases h : i < n.toNat + 1
       · rw [if_pos h, if_pos h]; rfl
       · rw [if_neg h, if_neg h]; rfl
     | filled i =>
       show (if i < n.toNat + 1 then some (HO.dK []) else none) = (newB S n.toNat).rows[i]?.map fun r => HO.dK (Yp (fun _ _ => 0) i r.filled)
       rw [VJ]
       by_cases h : i < n.toNat + 1
       · rw [if_pos h, if_pos h]; rfl
       · rw [if_neg h, if_neg h]; rfl
     | rising i =>
       show (if i < n.toNat + 1 then some (HO.lst []) else none) = (newB S n.toNat).rows[i]?.map fun r => HO.lst (r.rising.map V.int)
       rw [VJ]
       by_cases h : i < n.toNat + 1
       · rw [if_pos h, if_pos h]; rfl
       · rw [if_neg h, if_neg h]; rfl
     | names => rfl
     | steps => rfl
     | ticks => rfl
     | kept => rfl
     | slot i s =>
       show none = (newB S n.toNat).rows[i]?.bind fun r => (get r.filled s).map fun ns => HO.dK (numV ns)
       rw [VJ]
       by_cases h : i < n.toNat + 1
       · rw [if_pos h]; rfl
       · rw [if_neg h]; rfl
   have hsl : ∀ i s, cont (clOf a) ⟨AD, lput dx .book dxp⟩ (fun _ _ => 0) (newB S n.toNat) (.slot i s) = none := fun i s => by
     show ((newB S n.toNat).rows[i]?.bind fun r => (get r.filled s).map fun ns => HO.dK (numV ns)) = none
     rw [VJ]
     by_cases h : i < n.toNat + 1
     · rw [if_pos h]; rfl
     · rw [if_neg h]; rfl
   have hok := newB_ok (n := n.toNat) g1 g2 (by omega) (by omega)
   exact k1 g _ ⟨⟨AD, lput dx .book dxp⟩, _, newB S n.toNat, a1, bk_of PB hsl, hok, rfl, rfl, rfl, rfl⟩
def spRowTake (c : Cl) : Sp := fun vs H Q _ => ∃ (A : Adr) (sl : Sl) (H0 : Hp) (B : BkS) (i : Nat) (r : RowS) (g : Int → Option Int) (n t : Int), vs = [.ref (A.ad (.row i)), .int n, .int t] ∧ Bk c A sl H0 H B ∧ B.rows[i]? = some r ∧ RowOK r g ∧ Sm r ∧ g n = some t ∧
 ∀ H' sl', Bk c A sl' H0 H' (ZS B i (YH r n (t / r.span))) → Q .non H'
theorem sc_Row_take : FnScope ["self", "number", "tick", "slot"] ["self", "number", "tick"] (Zd XL) := Zw
theorem ok_Row_take (T : Txt K mg a) : FnOk P w K mg base (CXe P w) 3 a.f_Row_take a.fd_Row_take ["self", "number", "tick"] (spRowTake (clOf a)) := by
 have G_Row_take_slot := VI (P := P) (w := w) (base := base) T
 refine T.F_Row_take.okN sc_Row_take (fun vs H Q E h => ?_) (fun cdv A' outer s H vs Q E hr h => ?_)
 · obtain ⟨A, sl, H0, B, i, r, g, n, t, rfl, _⟩ := h
   rfl
 · obtain ⟨A, sl, H0, B, i, r, g, n, t, rfl, b, hi, R, sm, hg, k⟩ := h
   have hu := YL hr
   obtain ⟨ns, hns, hm⟩ := (R.has n (t / r.span)).mpr ⟨t, hg, rfl⟩
   have hrs : t / r.span ∈ r.rising := (R.mem _).mpr (by rw [hns]; rfl)
   refine ⟨_, (Zh (Zz (i := 3) sc_Row_take.nd rfl (Or.inl rfl) (Zp ZJ (pv 2) (Zu (pv 0) rfl)))
     (Zh (ZG (YK (Zs hu (Zu (pv 0) rfl) (pv 3) (fun _ _ => rfl)) (pv 1) ⟨rfl, rfl, rfl, rfl⟩))
     (Zg (ZI (Zo Xy (ZL call_lenD (by rfl) T.b_len boot_len (Za (Zs hu (Zu (pv 0) rfl) (pv 3) (fun _ _ => rfl)) Ze)) Zf (Zv _)) (Zg (ZG (ZU (pv 0) T.cl_Row T.m_Row_take_slot G_Row_take_slot (hr.mono (by decide)) T.B_Row_take_slot .nil ZE (Za (pv 3) Ze)))) Zy)))), ?_⟩
   refine ⟨_, rfl, _, rfl, _, _, _, _, _, rfl, b.row hi, T.cl_Row, T.n_Row_span, rfl, _, _, rfl, rfl, ⟨R.sp, sm.sp⟩, ?_⟩
   obtain ⟨v, hv⟩ := Option.isSome_iff_exists.mp (valV_numV hm)
   refine ⟨_, rfl, _, _, _, _, _, rfl, b.row hi, T.cl_Row, T.n_Row_filled, rfl, _, rfl, _, _, rfl, b.getF hi hns, _, rfl, .inl ⟨_, .inl (b.slot hi hns)⟩, _, rfl, _, Sum.inl n, v, b.slot hi hns, rfl, hv, ?_⟩
   rw [dropK_numV]
   have b1 := b.wSlot hi hns (ZR ns n)
   have hi1 : (ZS B i (Xh r (t / r.span) (ZR ns n))).rows[i]? = some (Xh r (t / r.span) (ZR ns n)) := Vm hi
   have hg1 : get (Xh r (t / r.span) (ZR ns n)).filled (t / r.span) = some (ZR ns n) := by show get (put r.filled _ _) _ = _; rw [ZB, if_pos rfl]
   have eT : YH r n (t / r.span) = if ZR ns n = [] then Vs (Xh r (t / r.span) (ZR ns n)) (t / r.span) else Xh r (t / r.span) (ZR ns n) := by unfold YH; rw [hns]; rfl
   refine ⟨_, rfl, _, _, _, _, _, rfl, b1.row hi1, T.cl_Row, T.n_Row_filled, rfl, _, rfl, _, _, rfl, b1.getF hi1 hg1, _, _, rfl, b1.slot hi1 hg1, rfl, _, rfl, ?_⟩
   have el : (numV (ZR ns n)).length = (ZR ns n).length := by unfold numV; rw [List.length_map]
   rw [el]
   by_cases he : ZR ns n = []
   · rw [decide_eq_true (show V.int ((ZR ns n).length : Int) = V.int 0 by rw [he]; rfl)]
     have sm1 : Sm (Xh r (t / r.span) (ZR ns n)) := by
       refine ⟨sm.sp, sm.ri, ?_, fun x ms h => ?_⟩
       · show (put r.filled _ _).length ≤ 100
         have : (keys (put r.filled (t / r.span) (ZR ns n))).length = (keys r.filled).length := by rw [Tg _ (by rw [hns]; rfl)]
         have f1 := sm.fi
         simp [keys] at this
         omega
       · have h' : get (put r.filled (t / r.span) (ZR ns n)) x = some ms := h
         rw [ZB] at h'
         by_cases ex : x = t / r.span
         · rw [if_pos ex] at h'
           cases h'
           rw [he]
           decide
         · rw [if_neg ex] at h'
           exact sm.ns _ _ h'
     refine iteT ⟨_, rfl, _, _, _, rfl, b1.row hi1, rfl, _, rfl, A, sl, H0, _, i, _, t / r.span, ZR ns n, rfl, b1, hi1, R.srt, hrs, hg1, (R.nd _ _ hns).sublist List.filter_sublist, sm1, fun H2 l out hl b2 _ _ => ?_⟩
     rw [XT] at b2
     refine k H2 sl ?_
     rw [eT, if_pos he]
     exact b2.weak (Same.upd hl)
   · have hne : ¬ V.int ((ZR ns n).length : Int) = V.int 0 := fun z => he (List.length_eq_zero_iff.mp (by injection z with z; omega))
     rw [decide_eq_false hne]
     refine iteF ?_
     refine k _ sl ?_
     rw [eT, if_neg he]
     exact b1
def spRackTake (c : Cl) : Sp := fun vs H Q _ => ∃ (A : Adr) (sl : Sl) (H0 : Hp) (B : BkS) (S : Int) (n : Nat) (now k t : Int) (f : Int → Option Int), vs = [.ref (A.ad .rack), .int now, .int k, .int t] ∧ Bk c A sl H0 H B ∧ Geo S n B ∧ RackOK S n now B.rows f ∧ f k = some t ∧
 ∀ (H' : Hp) (sl' : Sl) (rows' : List RowS), Bk c A sl' H0 H' { B with rows := rows' } → rows'.length = B.rows.length → RackOK S n now rows' (gput f k none) → Q .non H'
theorem Qe : FnScope ["self", "now", "number", "tick"] ["self", "now", "number", "tick"] (Zd Xw) := Zw
theorem Qy (T : Txt K mg a) : FnOk P w K mg base (CXe P w) 4 a.f_Rack_take a.fd_Rack_take ["self", "now", "number", "tick"] (spRackTake (clOf a)) := by
 have G_Rack_row_of := Uo (P := P) (w := w) (base := base) T
 have G_Row_take := ok_Row_take (P := P) (w := w) (base := base) T
 refine T.F_Rack_take.okN Qe (fun vs H Q E h => ?_) (fun cdv A' outer s H vs Q E hr h => ?_)
 · obtain ⟨A, sl, H0, B, S, n, now, k, t, f, rfl, _⟩ := h
   rfl
 · obtain ⟨A, sl, H0, B, S, n, now, k, t, f, rfl, b, G, R, hk, kk⟩ := h
   refine ⟨_, (Zg (ZG (ZU (ZU (pv 0) T.cl_Rack T.m_Rack_row_of G_Rack_row_of (hr.mono (by decide)) T.B_Rack_row_of .nil ZE (Za (pv 1) (Za (pv 3) Ze))) T.cl_Row T.m_Row_take G_Row_take (hr.mono (by decide)) T.B_Row_take .nil ZE (Za (pv 2) (Za (pv 3) Ze))))), ?_⟩
   refine ⟨_, rfl, _, _, _, rfl, b.rack, rfl, _, rfl, _, rfl, A, sl, H0, B, S, n, now, t, rfl, b, G, fun H1 s1 => ?_⟩
   have b1 := b.up s1
   obtain ⟨r, hi⟩ := R.at (TL S n now t)
   refine ⟨_, _, _, rfl, b1.row hi, rfl, _, rfl, _, rfl, A, sl, H0, B, _, r, _, k, t, rfl, b1, hi, R.row _ _ hi, RackOK.sm R G.hi G.n6 hi, fil_some.mpr ⟨hk, rfl⟩, fun H2 sl2 b2 => ?_⟩
   exact kk H2 sl2 _ b2 (List.length_set ..) (R.take hk hi)
end Tk
end
section
namespace Tb
open PySem L2 Mir Rk
section
variable {B : BkS}
def goneW (B : BkS) (k : Int) : BkS := { B with ticks := drop B.ticks k, steps := drop B.steps k, names := drop B.names k }
def goneR (B : BkS) (k : Int) : BkS := { B with kept := drop B.kept k, steps := drop B.steps k, names := drop B.names k }
def moveB (B : BkS) (k due : Int) : BkS := { B with ticks := put B.ticks k due }
def restB (B : BkS) (k left : Int) : BkS := { B with ticks := drop B.ticks k, kept := put B.kept k left }
def goB (B : BkS) (k t : Int) : BkS := { B with kept := drop B.kept k, ticks := put B.ticks k t }
theorem ZP {α : Type} (t : Dct α) (k m : Int) : (get (drop t k) m).isSome = (!decide (m = k) && (get t m).isSome) := by
 rw [Zx]
 by_cases e : m = k <;> simp [e]
theorem Vq {α : Type} (t : Dct α) (k m : Int) (a : α) : (get (put t k a) m).isSome = (decide (m = k) || (get t m).isSome) := by
 rw [ZB]
 by_cases e : m = k <;> simp [e]
theorem Out.goneW (o : Out B) {k t : Int} (h : get B.ticks k = some t) : Out (goneW B k) := by
 have hk : get B.kept k = none := o.dis k (by rw [h]; rfl)
 refine ⟨ZN o.ndT _, o.ndK, ZN o.ndN _, ZN o.ndS _, o.nx, fun m q => ?_, fun m => ?_, fun m => ?_, fun m s q => ?_, fun m q => ?_, o.kp⟩
 · have q' : (get (drop B.names k) m).isSome = true := q
   rw [ZP, Bool.and_eq_true] at q'
   exact o.dom m q'.2
 · show (get (drop B.names k) m).isSome = ((get (drop B.ticks k) m).isSome || (get B.kept m).isSome)
   rw [ZP, ZP, o.nm m]
   by_cases e : m = k
   · simp [e, hk]
   · simp [e]
 · show (get (drop B.steps k) m).isSome = (get (drop B.names k) m).isSome
   rw [ZP, ZP, o.st m]
 · have q' : get (drop B.steps k) m = some (some s) := q
   rw [Zx] at q'
   by_cases e : m = k
   · rw [if_pos e] at q'; cases q'
   · rw [if_neg e] at q'; exact o.pos m s q'
 · have q' : (get (drop B.ticks k) m).isSome = true := q
   rw [ZP, Bool.and_eq_true] at q'
   exact o.dis m q'.2
theorem Out.goneR (o : Out B) {k t : Int} (h : get B.kept k = some t) : Out (goneR B k) := by
 have hk : get B.ticks k = none := by
   cases e : get B.ticks k with
   | none => rfl
   | some v => have := o.dis k (by rw [e]; rfl); rw [h] at this; cases this
 refine ⟨o.ndT, ZN o.ndK _, ZN o.ndN _, ZN o.ndS _, o.nx, fun m q => ?_, fun m => ?_, fun m => ?_, fun m s q => ?_, fun m q => ?_, fun m x q => ?_⟩
 · have q' : (get (drop B.names k) m).isSome = true := q
   rw [ZP, Bool.and_eq_true] at q'
   exact o.dom m q'.2
 · show (get (drop B.names k) m).isSome = ((get B.ticks m).isSome || (get (drop B.kept k) m).isSome)
   rw [ZP, ZP, o.nm m]
   by_cases e : m = k
   · simp [e, hk]
   · simp [e]
 · show (get (drop B.steps k) m).isSome = (get (drop B.names k) m).isSome
   rw [ZP, ZP, o.st m]
 · have q' : get (drop B.steps k) m = some (some s) := q
   rw [Zx] at q'
   by_cases e : m = k
   · rw [if_pos e] at q'; cases q'
   · rw [if_neg e] at q'; exact o.pos m s q'
 · show get (drop B.kept k) m = none
   rw [Zx]
   by_cases e : m = k
   · rw [if_pos e]
   · rw [if_neg e]; exact o.dis m q
 · have q' : get (drop B.kept k) m = some x := q
   rw [Zx] at q'
   by_cases e : m = k
   · rw [if_pos e] at q'; cases q'
   · rw [if_neg e] at q'; exact o.kp m x q'
theorem Out.moveB (o : Out B) {k t : Int} (h : get B.ticks k = some t) (due : Int) : Out (moveB B k due) := by
 refine ⟨ZY o.ndT _ _, o.ndK, o.ndN, o.ndS, o.nx, o.dom, fun m => ?_, o.st, o.pos, fun m q => ?_, o.kp⟩
 · show (get B.names m).isSome = ((get (put B.ticks k due) m).isSome || (get B.kept m).isSome)
   rw [Vq, o.nm m]
   by_cases e : m = k
   · simp [e, h]
   · simp [e]
 · have q' : (get (put B.ticks k due) m).isSome = true := q
   rw [Vq, Bool.or_eq_true] at q'
   rcases q' with e | e
   · have e' : m = k := by simpa using e
     rw [e']
     exact o.dis k (by rw [h]; rfl)
   · exact o.dis m e
theorem Out.restB (o : Out B) {k t : Int} (h : get B.ticks k = some t) {left : Int} (hl : 0 < left) : Out (restB B k left) := by
 refine ⟨ZN o.ndT _, ZY o.ndK _ _, o.ndN, o.ndS, o.nx, o.dom, fun m => ?_, o.st, o.pos, fun m q => ?_, fun m x q => ?_⟩
 · show (get B.names m).isSome = ((get (drop B.ticks k) m).isSome || (get (put B.kept k left) m).isSome)
   rw [ZP, Vq, o.nm m]
   by_cases e : m = k
   · simp [e, h]
   · simp [e]
 · have q' : (get (drop B.ticks k) m).isSome = true := q
   rw [ZP, Bool.and_eq_true] at q'
   have e : ¬ m = k := by simpa using q'.1
   show get (put B.kept k left) m = none
   rw [ZB, if_neg e]
   exact o.dis m q'.2
 · have q' : get (put B.kept k left) m = some x := q
   rw [ZB] at q'
   by_cases e : m = k
   · rw [if_pos e] at q'; cases q'; exact hl
   · rw [if_neg e] at q'; exact o.kp m x q'
theorem Out.goB (o : Out B) {k t : Int} (h : get B.kept k = some t) (x : Int) : Out (goB B k x) := by
 refine ⟨ZY o.ndT _ _, ZN o.ndK _, o.ndN, o.ndS, o.nx, o.dom, fun m => ?_, o.st, o.pos, fun m q => ?_, fun m y q => ?_⟩
 · show (get B.names m).isSome = ((get (put B.ticks k x) m).isSome || (get (drop B.kept k) m).isSome)
   rw [ZP, Vq, o.nm m]
   by_cases e : m = k
   · simp [e, h]
   · simp [e]
 · have q' : (get (put B.ticks k x) m).isSome = true := q
   rw [Vq, Bool.or_eq_true] at q'
   show get (drop B.kept k) m = none
   rw [Zx]
   by_cases e : m = k
   · rw [if_pos e]
   · rw [if_neg e]
     exact o.dis m (q'.resolve_left (by simpa using e))
 · have q' : get (drop B.kept k) m = some y := q
   rw [Zx] at q'
   by_cases e : m = k
   · rw [if_pos e] at q'; cases q'
   · rw [if_neg e] at q'; exact o.kp m y q'
theorem wait_goneW {k : Int} : wait (goneW B k) = fput (wait B) k none := by
 funext m
 show ZZ (get (drop B.names k) m) (get (drop B.steps k) m) (get (drop B.ticks k) m) = _
 rw [Zx, Zx, Zx]
 unfold fput
 by_cases e : m = k
 · simp [e, ZZ]
 · simp only [if_neg e]; rfl
theorem Out.rest_goneW (o : Out B) {k t : Int} (h : get B.ticks k = some t) : rest (Tb.goneW B k) = rest B := by
 have hk : get B.kept k = none := o.dis k (by rw [h]; rfl)
 funext m
 show ZZ (get (drop B.names k) m) (get (drop B.steps k) m) (get B.kept m) = ZZ (get B.names m) (get B.steps m) (get B.kept m)
 rw [Zx, Zx]
 by_cases e : m = k
 · rw [e, hk]; rfl
 · rw [if_neg e, if_neg e]
theorem rest_goneR {k : Int} : rest (goneR B k) = fput (rest B) k none := by
 funext m
 show ZZ (get (drop B.names k) m) (get (drop B.steps k) m) (get (drop B.kept k) m) = _
 rw [Zx, Zx, Zx]
 unfold fput
 by_cases e : m = k
 · simp [e, ZZ]
 · simp only [if_neg e]; rfl
theorem wait_goneR {k : Int} (h : get B.ticks k = none) : wait (goneR B k) = wait B := by
 funext m
 show ZZ (get (drop B.names k) m) (get (drop B.steps k) m) (get B.ticks m) = ZZ (get B.names m) (get B.steps m) (get B.ticks m)
 rw [Zx, Zx]
 by_cases e : m = k
 · rw [e, h]; rfl
 · rw [if_neg e, if_neg e]
theorem wait_moveB {k due : Int} {nm : Str} {sp : Option Int} (h1 : get B.names k = some nm) (h2 : get B.steps k = some sp) : wait (moveB B k due) = fput (wait B) k (some ⟨nm, due, sp⟩) := by
 funext m
 show ZZ (get B.names m) (get B.steps m) (get (put B.ticks k due) m) = _
 rw [ZB]
 unfold fput
 by_cases e : m = k
 · subst e; simp [ZZ, h1, h2]
 · simp only [if_neg e]; rfl
theorem wait_restB {k left : Int} : wait (restB B k left) = fput (wait B) k none := by
 funext m
 show ZZ (get B.names m) (get B.steps m) (get (drop B.ticks k) m) = _
 rw [Zx]
 unfold fput
 by_cases e : m = k
 · simp [e, ZZ]
 · simp only [if_neg e]; rfl
theorem rest_restB {k left : Int} {nm : Str} {sp : Option Int} (h1 : get B.names k = some nm) (h2 : get B.steps k = some sp) : rest (restB B k left) = fput (rest B) k (some ⟨nm, left, sp⟩) := by
 funext m
 show ZZ (get B.names m) (get B.steps m) (get (put B.kept k left) m) = _
 rw [ZB]
 unfold fput
 by_cases e : m = k
 · subst e; simp [ZZ, h1, h2]
 · simp only [if_neg e]; rfl
theorem rest_goB {k t : Int} : rest (goB B k t) = fput (rest B) k none := by
 funext m
 show ZZ (get B.names m) (get B.steps m) (get (drop B.kept k) m) = _
 rw [Zx]
 unfold fput
 by_cases e : m = k
 · simp [e, ZZ]
 · simp only [if_neg e]; rfl
theorem wait_goB {k t : Int} {nm : Str} {sp : Option Int} (h1 : get B.names k = some nm) (h2 : get B.steps k = some sp) : wait (goB B k t) = fput (wait B) k (some ⟨nm, t, sp⟩) := by
 funext m
 show ZZ (get B.names m) (get B.steps m) (get (put B.ticks k t) m) = _
 rw [ZB]
 unfold fput
 by_cases e : m = k
 · subst e; simp [ZZ, h1, h2]
 · simp only [if_neg e]; rfl
end
end Tb
end
section
namespace Tk
open PySem L2 Mir Rk Tb
open PyProof.Rows (boot_sorted boot_min boot_enumerate boot_isinstance boot_sum boot_max)
variable {P : Program} {w : World} {K : W.Frag} {mg : Str → Option Value} {base : Heap} {a : Ad}
def spStop (c : Cl) : Sp := fun vs H Q _ => ∃ (A : Adr) (sl : Sl) (H0 : Hp) (B : BkS) (S : Int) (n : Nat) (k t : Int), vs = [.ref (A.ad .book), .int k] ∧ Bk c A sl H0 H B ∧ Geo S n B ∧ RackOK S n B.now B.rows (get B.ticks) ∧ get B.ticks k = some t ∧
 ∀ (H' : Hp) (sl' : Sl) (rows' : List RowS), Bk c A sl' H0 H' { B with rows := rows', ticks := drop B.ticks k } → rows'.length = B.rows.length → RackOK S n B.now rows' (gput (get B.ticks) k none) → Q .non H'
theorem TV : FnScope ["book", "number"] ["book", "number"] (Zd Yz) := Zw
theorem Va (T : Txt K mg a) : FnOk P w K mg base (CXe P w) 5 a.f_stop_waiting a.fd_stop_waiting ["book", "number"] (spStop (clOf a)) := by
 have G_Rack_take := Qy (P := P) (w := w) (base := base) T
 refine T.F_stop_waiting.okN TV (fun vs H Q E h => ?_) (fun cdv A' outer s H vs Q E hr h => ?_)
 · obtain ⟨A, sl, H0, B, S, n, k, t, rfl, _⟩ := h
   rfl
 · obtain ⟨A, sl, H0, B, S, n, k, t, rfl, b, G, R, ht, kk⟩ := h
   refine ⟨_, (Zg (ZG (ZU (Zu (pv 0) rfl) T.cl_Rack T.m_Rack_take G_Rack_take (hr.mono (by decide)) T.B_Rack_take .nil ZE (Za (Zu (pv 0) rfl) (Za (pv 1) (Za (YK (Zu (pv 0) rfl) (pv 1) ⟨rfl, rfl, rfl, rfl⟩) Ze)))))), ?_⟩
   refine ⟨_, rfl, _, _, _, _, _, rfl, b.book, T.cl_Book, T.n_Book_rack, rfl, _, _, _, rfl, b.rack, rfl, _, rfl, _, _, _, _, _, rfl, b.book, T.cl_Book, T.n_Book_now, rfl, _, rfl, _, rfl, _, _, _, _, _, rfl, b.book, T.cl_Book, T.n_Book_ticks, rfl, _, rfl, .inl ⟨_, .inl b.ticks⟩, _, rfl, _, Sum.inl k, .int t, b.ticks, rfl, (by rw [ZW, ht]; rfl), ?_⟩
   have b1 := b.popT k
   exact ⟨A, sl, H0, _, S, n, B.now, k, t, get B.ticks, rfl, b1, G.up rfl rfl rfl, R, ht, fun H' sl' rows' b2 e R' => kk H' sl' rows' b2 e R'⟩
theorem RB {B : BkS} (o : Out B) (k : Int) : (Tb.rest B k).map (·.tick) = get B.kept k := by
 cases e : get B.kept k with
 | none => unfold Tb.rest; rw [e]; simp [ZZ]
 | some t => obtain ⟨nm, sp, _, _, hw⟩ := o.rests e; rw [hw]; rfl
def spLeft (c : Cl) (NotThere : Addr) : Sp := fun vs H Q E => ∃ (H0 : Hp) (p : Addr) (v : Vw) (k : Int), vs = [.ref p, .int k] ∧ BookAt c H0 H p v ∧ Lg k ∧ (v.rest k = none → E (.ref NotThere) none H) ∧ ∀ al, v.rest k = some al → Q (.int al.tick) H
theorem Qf : FnScope ["self", "number"] ["self", "number"] (Zd Xx) := Zw
theorem QA (T : Txt K mg a) : FnOk P w K mg base (CXe P w) 1 a.f_Book_left a.fd_Book_left ["self", "number"] (spLeft (clOf a) a.C_NotThere) := by
 refine T.F_Book_left.okE Qf (fun vs H Q E h => ?_) (fun cdv A' outer s H vs Q E hr h => ?_)
 · obtain ⟨H0, p, v, k, rfl, _⟩ := h
   rfl
 · obtain ⟨H0, p, v, k, rfl, ⟨A, sl, B, rfl, b, ok, e1, e2, e3, e4⟩, hl, k0, k1⟩ := h
   have hu := YL hr
   refine ⟨_, (Zh (ZI (VQ (Vi hu (pv 1) (Zu (pv 0) rfl))) (Zg (XW TJ rfl rfl T.c_NotThere T.x_NotThere (Za (Vu (YO (XX (pv 1) (YO Uj)))) Ze))) Zy)
     (Zg (Zq (Zs hu (Zu (pv 0) rfl) (pv 1) (fun _ _ => rfl))))), ?_⟩
   have g := b.getKp k
   refine ⟨_, rfl, _, rfl, _, _, _, _, _, rfl, b.book, T.cl_Book, T.n_Book_kept_ticks, rfl, _, _, rfl, g, _, rfl, ?_⟩
   have tk := RB ok.out k
   rw [e4] at tk
   cases e : get B.kept k with
   | none =>
     rw [e] at tk
     have : v.rest k = none := by simpa using tk
     exact iteT ⟨_, rfl, _, rfl, hl, fun y => ⟨by show 1 ≤ sizeLine; decide, k0 this⟩⟩
   | some t =>
     rw [e] at g tk
     cases e6 : v.rest k with
     | none => rw [e6] at tk; cases tk
     | some al =>
       rw [e6] at tk
       have e7 : al.tick = t := by simpa using tk
       refine iteF ⟨_, rfl, _, _, _, _, _, rfl, b.book, T.cl_Book, T.n_Book_kept_ticks, rfl, _, rfl, _, _, rfl, g, ?_⟩
       rw [← e7]
       exact k1 al e6
def spBack (c : Cl) (NotThere : Addr) : Sp := fun vs H Q E => ∃ (H0 : Hp) (p : Addr) (v : Vw) (k : Int), vs = [.ref p, .int k] ∧ BookAt c H0 H p v ∧ Lg k ∧ (v.wait k = none → v.rest k = none → E (.ref NotThere) none H) ∧
 (∀ al, v.wait k = some al → ∀ H', BookAt c H0 H' p { v with wait := fput v.wait k none } → Q (.str al.name) H') ∧
 ∀ al, v.wait k = none → v.rest k = some al → ∀ H', BookAt c H0 H' p { v with rest := fput v.rest k none } → Q (.str al.name) H'
theorem Qb : FnScope ["book", "number"] ["book", "number"] (Zd Xl) := Zw
theorem Qn (T : Txt K mg a) : FnOk P w K mg base (CXe P w) 6 a.f_take_back a.fd_take_back ["book", "number"] (spBack (clOf a) a.C_NotThere) := by
 have G_stop_waiting := Va (P := P) (w := w) (base := base) T
 have G_forget := RD (P := P) (w := w) (base := base) T
 refine T.F_take_back.okE Qb (fun vs H Q E h => ?_) (fun cdv A' outer s H vs Q E hr h => ?_)
 · obtain ⟨H0, p, v, k, rfl, _⟩ := h
   rfl
 · obtain ⟨H0, p, v, k, rfl, ⟨A, sl, B, rfl, b, ok, e1, e2, e3, e4⟩, hl, k0, k1, k2⟩ := h
   have hu := YL hr
   refine ⟨_, (Zh (ZI (VQ (pc_din hu (pv 1) (Zu (pv 0) rfl))) (Zg (ZG (ZA G_stop_waiting (hr.mono (by decide)) (by rfl) T.f_stop_waiting T.kp_stop_waiting T.B_stop_waiting .nil ZE (Za (pv 0) (Za (pv 1) Ze))))) (Zg (ZI (VQ (pc_din hu (pv 1) (Zu (pv 0) rfl))) (Zg (ZG (YK (Zu (pv 0) rfl) (pv 1) ⟨rfl, rfl, rfl, rfl⟩))) (Zg (XW TJ rfl rfl T.c_NotThere T.x_NotThere (Za (Vu (YO (XX (pv 1) (YO Uj)))) Ze))))))
     (Zg (Zq (ZA G_forget (hr.mono (by decide)) (by rfl) T.f_forget T.kp_forget T.B_forget .nil ZE (Za (pv 0) (Za (pv 1) Ze)))))), ?_⟩
   have g := b.getT k
   refine ⟨_, rfl, _, rfl, _, _, _, _, _, rfl, b.book, T.cl_Book, T.n_Book_ticks, rfl, _, _, rfl, g, _, rfl, ?_⟩
   have tk := ok.out.tick_of k
   rw [e3] at tk
   cases e : get B.ticks k with
   | some t =>
     obtain ⟨nm, sp, hn, hs, hw⟩ := ok.out.waits e
     rw [e3] at hw
     refine iteT ⟨_, rfl, _, rfl, A, sl, H0, B, v.S, v.n, k, t, rfl, b, ok.geo, ok.rack, e, fun H1 sl1 rows1 b1 l1 R1 => ?_⟩
     refine ⟨_, rfl, _, rfl, A, sl1, H0, _, k, nm, sp, rfl, b1, hn, hs, fun H2 b2 => ?_⟩
     refine k1 _ hw H2 ⟨A, sl1, _, rfl, b2, ⟨ok.geo.up rfl rfl l1, ?_, (ok.out.goneW e).rows rows1, ok.nn⟩, e1, e2, ?_, ?_⟩
     · refine R1.congr fun m => ?_
       show gput (get B.ticks) k none m = get (drop B.ticks k) m
       rw [Zx]
       rfl
     · rw [← e3]
       exact wait_goneW (B := B)
     · rw [← e4]
       exact ok.out.rest_goneW e
   | none =>
     rw [e] at tk
     have hwn : v.wait k = none := by simpa using tk
     refine iteF ?_
     have g2 := b.getKp k
     refine ⟨_, rfl, _, rfl, _, _, _, _, _, rfl, b.book, T.cl_Book, T.n_Book_kept_ticks, rfl, _, _, rfl, g2, _, rfl, ?_⟩
     have tr := RB ok.out k
     rw [e4] at tr
     cases e5 : get B.kept k with
     | none =>
       rw [e5] at tr
       have hrn : v.rest k = none := by simpa using tr
       exact iteF ⟨_, rfl, _, rfl, hl, fun y => ⟨by show 1 ≤ sizeLine; decide, k0 hwn hrn⟩⟩
     | some t =>
       obtain ⟨nm, sp, hn, hs, hw⟩ := ok.out.rests e5
       rw [e4] at hw
       refine iteT ⟨_, rfl, _, _, _, _, _, rfl, b.book, T.cl_Book, T.n_Book_kept_ticks, rfl, _, rfl, .inl ⟨_, .inl b.kept⟩, _, rfl, _, Sum.inl k, .int t, b.kept, rfl, (by rw [ZW, e5]; rfl), ?_⟩
       have b1 := b.popK k
       refine ⟨_, rfl, _, rfl, A, sl, H0, _, k, nm, sp, rfl, b1, hn, hs, fun H2 b2 => ?_⟩
       refine k2 _ hwn hw H2 ⟨A, sl, _, rfl, b2, ⟨ok.geo.up rfl rfl rfl, ok.rack, ok.out.goneR e5, ok.nn⟩, e1, e2, ?_, ?_⟩
       · rw [← e3]
         exact wait_goneR (B := B) e
       · rw [← e4]
         exact rest_goneR (B := B)
def spMove (c : Cl) (NotThere Past : Addr) : Sp := fun vs H Q E => ∃ (H0 : Hp) (p : Addr) (v : Vw) (k due : Int), vs = [.ref p, .int k, .int due] ∧ BookAt c H0 H p v ∧ Lg k ∧ Lg due ∧ (v.wait k = none → E (.ref NotThere) none H) ∧
 (∀ al, v.wait k = some al → due ≤ v.now → E (.ref Past) none H) ∧ ∀ al, v.wait k = some al → v.now < due → ∀ H', BookAt c H0 H' p { v with wait := fput v.wait k (some ⟨al.name, due, al.step⟩) } → Q .non H'
theorem sc_move : FnScope ["book", "number", "due"] ["book", "number", "due"] (Zd Ty) := Zw
theorem gput_gput {f : Int → Option Int} {k : Int} {x y : Option Int} : gput (gput f k x) k y = gput f k y := by
 funext m
 unfold gput
 by_cases e : m = k <;> simp [e]
theorem VP {t : Dct Int} {k x m : Int} : get (put (drop t k) k x) m = get (put t k x) m := by
 rw [ZB, ZB, Zx]
 by_cases e : m = k <;> simp [e]
theorem ok_move (T : Txt K mg a) : FnOk P w K mg base (CXe P w) 6 a.f_move a.fd_move ["book", "number", "due"] (spMove (clOf a) a.C_NotThere a.C_Past) := by
 have G_Book_due := Uq (P := P) (w := w) (base := base) T
 have G_check_tick := UM (P := P) (w := w) (base := base) T
 have G_stop_waiting := Va (P := P) (w := w) (base := base) T
 have G_start_waiting := YD (P := P) (w := w) (base := base) T
 refine T.F_move.okE sc_move (fun vs H Q E h => ?_) (fun cdv A' outer s H vs Q E hr h => ?_)
 · obtain ⟨H0, p, v, k, due, rfl, _⟩ := h
   rfl
 · obtain ⟨H0, p, v, k, due, rfl, hb, hl1, hl2, k0, k1, k2⟩ := h
   obtain ⟨A, sl, B, rfl, b, ok, e1, e2, e3, e4⟩ := id hb
   refine ⟨_, (Zh (ZG (ZU (pv 0) T.cl_Book T.m_Book_due G_Book_due (hr.mono (by decide)) T.B_Book_due .nil Ul (Za (pv 1) Ze)))
     (Zh (ZG (ZA G_check_tick (hr.mono (by decide)) (by rfl) T.f_check_tick T.kp_check_tick T.B_check_tick .nil Ul (Za (pv 0) (Za (pv 2) Ze))))
     (Zh (ZG (ZA G_stop_waiting (hr.mono (by decide)) (by rfl) T.f_stop_waiting T.kp_stop_waiting T.B_stop_waiting .nil ZE (Za (pv 0) (Za (pv 1) Ze))))
     (Zg (ZG (ZA G_start_waiting (hr.mono (by decide)) (by rfl) T.f_start_waiting T.kp_start_waiting T.B_start_waiting .nil ZE (Za (pv 0) (Za (pv 1) (Za (pv 2) Ze))))))))), ?_⟩
   refine ⟨_, rfl, _, _, _, rfl, b.book, rfl, _, rfl, H0, _, v, k, rfl, hb, hl1, k0, fun al hal => ?_⟩
   refine ⟨_, rfl, _, rfl, A, sl, H0, B, due, rfl, b, hl2, fun z => k1 al hal (by omega), fun hd => ?_⟩
   have hal' := hal
   rw [← e3] at hal'
   obtain ⟨hn, hs, ht⟩ := alarm_some.mp hal'
   refine ⟨_, rfl, _, rfl, A, sl, H0, B, v.S, v.n, k, al.tick, rfl, b, ok.geo, ok.rack, ht, fun H1 sl1 rows1 b1 l1 R1 => ?_⟩
   obtain ⟨d1, d2⟩ := ok.out.domT ht
   have nx := ok.out.nx
   have lns := ok.out.lens
   have ldr : (drop B.ticks k).length ≤ B.ticks.length := List.length_filter_le _ _
   refine ⟨_, rfl, _, rfl, _, rfl, A, sl1, H0, _, v.S, v.n, k, due, gput (get B.ticks) k none, rfl, b1, ok.geo.up rfl rfl l1, R1, by unfold gput; rw [if_pos rfl], hd, d1, by omega, by show (drop B.ticks k).length ≤ 1000; omega, fun H2 sl2 rows2 b2 l2 R2 => ?_⟩
   have oM := (ok.out.moveB ht due).sameT (t := put (drop B.ticks k) k due) (ZY (ZN ok.out.ndT _) _ _) (fun m => VP)
   refine k2 al hal (by omega) H2 ⟨A, sl2, _, rfl, b2, ⟨ok.geo.up rfl rfl (l2.trans l1), ?_, oM.rows rows2, ok.nn⟩, e1, e2, ?_, e4⟩
   · refine R2.congr fun m => ?_
     rw [gput_gput]
     show gput (get B.ticks) k (some due) m = get (put (drop B.ticks k) k due) m
     rw [VP, ZB]
     rfl
   · rw [← e3, ← wait_moveB hn hs]
     funext m
     show ZZ (get B.names m) (get B.steps m) (get (put (drop B.ticks k) k due) m) = ZZ (get B.names m) (get B.steps m) (get (put B.ticks k due) m)
     rw [VP]
def spRest (c : Cl) (NotThere : Addr) : Sp := fun vs H Q E => ∃ (H0 : Hp) (p : Addr) (v : Vw) (k : Int), vs = [.ref p, .int k] ∧ BookAt c H0 H p v ∧ Lg k ∧ (v.wait k = none → E (.ref NotThere) none H) ∧
 ∀ al, v.wait k = some al → ∀ H', BookAt c H0 H' p { v with wait := fput v.wait k none, rest := fput v.rest k (some ⟨al.name, al.tick - v.now, al.step⟩) } → Q .non H'
theorem sc_rest : FnScope ["book", "number", "ticks_left"] ["book", "number"] (Zd Tx) := Zw
theorem ok_rest (T : Txt K mg a) : FnOk P w K mg base (CXe P w) 6 a.f_rest a.fd_rest ["book", "number"] (spRest (clOf a) a.C_NotThere) := by
 have G_Book_due := Uq (P := P) (w := w) (base := base) T
 have G_stop_waiting := Va (P := P) (w := w) (base := base) T
 refine T.F_rest.okE sc_rest (fun vs H Q E h => ?_) (fun cdv A' outer s H vs Q E hr h => ?_)
 · obtain ⟨H0, p, v, k, rfl, _⟩ := h
   rfl
 · obtain ⟨H0, p, v, k, rfl, hb, hl1, k0, k2⟩ := h
   obtain ⟨A, sl, B, rfl, b, ok, e1, e2, e3, e4⟩ := id hb
   have hu := YL hr
   refine ⟨_, (Zh (Zz (i := 2) sc_rest.nd rfl (Or.inl rfl) (Zp XY (ZU (pv 0) T.cl_Book T.m_Book_due G_Book_due (hr.mono (by decide)) T.B_Book_due .nil Ul (Za (pv 1) Ze)) (Zu (pv 0) rfl)))
     (Zh (ZG (ZA G_stop_waiting (hr.mono (by decide)) (by rfl) T.f_stop_waiting T.kp_stop_waiting T.B_stop_waiting .nil ZE (Za (pv 0) (Za (pv 1) Ze))))
     (Zg (YI hu (Zu (pv 0) rfl) (pv 1) (pv 2) rfl)))), ?_⟩
   refine ⟨_, rfl, _, _, _, rfl, b.book, rfl, _, rfl, H0, _, v, k, rfl, hb, hl1, k0, fun al hal => ?_⟩
   refine ⟨_, rfl, _, _, _, _, _, rfl, b.book, T.cl_Book, T.n_Book_now, rfl, _, _, rfl, rfl, ?_⟩
   have hal' := hal
   rw [← e3] at hal'
   obtain ⟨hn, hs, ht⟩ := alarm_some.mp hal'
   refine ⟨_, rfl, _, rfl, A, sl, H0, B, v.S, v.n, k, al.tick, rfl, b, ok.geo, ok.rack, ht, fun H1 sl1 rows1 b1 l1 R1 => ?_⟩
   have lns := ok.out.lens
   refine ⟨_, rfl, _, rfl, _, _, _, _, _, rfl, b1.book, T.cl_Book, T.n_Book_kept_ticks, rfl, _, rfl, _, _, rfl, b1.putKp k (al.tick - B.now) (by show B.kept.length ≤ 1000; omega), ?_⟩
   have b2 := b1.wKept (put B.kept k (al.tick - B.now))
   have hah := ok.rack.ahead k _ ht
   refine k2 al hal _ ⟨A, sl1, _, rfl, b2, ⟨ok.geo.up rfl rfl l1, ?_, (ok.out.restB ht (left := al.tick - B.now) (by omega)).rows rows1, ok.nn⟩, e1, e2, ?_, ?_⟩
   · refine R1.congr fun m => ?_
     show gput (get B.ticks) k none m = get (drop B.ticks k) m
     rw [Zx]
     rfl
   · rw [← e3]
     exact wait_restB (B := B) (left := al.tick - B.now)
   · rw [← e4, ← e1]
     exact rest_restB (B := B) hn hs
def spOn (c : Cl) (NotThere : Addr) : Sp := fun vs H Q E => ∃ (H0 : Hp) (p : Addr) (v : Vw) (k : Int), vs = [.ref p, .int k] ∧ BookAt c H0 H p v ∧ Lg k ∧ (v.rest k = none → E (.ref NotThere) none H) ∧
 ∀ al, v.rest k = some al → ∀ H', BookAt c H0 H' p { v with rest := fput v.rest k none, wait := fput v.wait k (some ⟨al.name, v.now + al.tick, al.step⟩) } → Q .non H'
theorem sc_go_on : FnScope ["book", "number", "tick"] ["book", "number"] (Zd UB) := Zw
theorem ok_go_on (T : Txt K mg a) : FnOk P w K mg base (CXe P w) 5 a.f_go_on a.fd_go_on ["book", "number"] (spOn (clOf a) a.C_NotThere) := by
 have G_Book_left := QA (P := P) (w := w) (base := base) T
 have G_start_waiting := YD (P := P) (w := w) (base := base) T
 refine T.F_go_on.okE sc_go_on (fun vs H Q E h => ?_) (fun cdv A' outer s H vs Q E hr h => ?_)
 · obtain ⟨H0, p, v, k, rfl, _⟩ := h
   rfl
 · obtain ⟨H0, p, v, k, rfl, hb, hl1, k0, k2⟩ := h
   obtain ⟨A, sl, B, rfl, b, ok, e1, e2, e3, e4⟩ := id hb
   refine ⟨_, (Zh (Zz (i := 2) sc_go_on.nd rfl (Or.inl rfl) (Zp Yg (Zu (pv 0) rfl) (ZU (pv 0) T.cl_Book T.m_Book_left G_Book_left (hr.mono (by decide)) T.B_Book_left .nil Ul (Za (pv 1) Ze))))
     (Zh (ZG (YK (Zu (pv 0) rfl) (pv 1) ⟨rfl, rfl, rfl, rfl⟩))
     (Zg (ZG (ZA G_start_waiting (hr.mono (by decide)) (by rfl) T.f_start_waiting T.kp_start_waiting T.B_start_waiting .nil ZE (Za (pv 0) (Za (pv 1) (Za (pv 2) Ze)))))))), ?_⟩
   refine ⟨_, rfl, _, _, _, _, _, rfl, b.book, T.cl_Book, T.n_Book_now, rfl, _, rfl, _, _, _, rfl, b.book, rfl, _, rfl, H0, _, v, k, rfl, hb, hl1, k0, fun al hal => ?_⟩
   have hal' := hal
   rw [← e4] at hal'
   obtain ⟨hn, hs, ht⟩ := alarm_some.mp hal'
   refine ⟨_, _, rfl, rfl, ?_⟩
   refine ⟨_, rfl, _, _, _, _, _, rfl, b.book, T.cl_Book, T.n_Book_kept_ticks, rfl, _, rfl, .inl ⟨_, .inl b.kept⟩, _, rfl, _, Sum.inl k, .int al.tick, b.kept, rfl, (by rw [ZW, ht]; rfl), ?_⟩
   have b1 := b.popK k
   have nx := ok.out.nx
   have lns := ok.out.lens
   have hkt : get B.ticks k = none := by
     cases e : get B.ticks k with
     | none => rfl
     | some t => have := ok.out.dis k (by rw [e]; rfl); rw [ht] at this; cases this
   obtain ⟨d1, d2⟩ := ok.out.dom k (ok.out.namesK (by rw [ht]; rfl))
   have hp := ok.out.kp k _ ht
   refine ⟨_, rfl, _, rfl, _, rfl, A, sl, H0, _, v.S, v.n, k, B.now + al.tick, get B.ticks, rfl, b1, ok.geo.up rfl rfl rfl, ok.rack, hkt, by show B.now < B.now + al.tick; omega, d1, by omega, by show B.ticks.length ≤ 1000; omega, fun H2 sl2 rows2 b2 l2 R2 => ?_⟩
   refine k2 al hal H2 ⟨A, sl2, _, rfl, b2, ⟨ok.geo.up rfl rfl l2, ?_, (ok.out.goB ht (B.now + al.tick)).rows rows2, ok.nn⟩, e1, e2, ?_, ?_⟩
   · refine R2.congr fun m => ?_
     show gput (get B.ticks) k (some (B.now + al.tick)) m = get (put B.ticks k (B.now + al.tick)) m
     rw [ZB]
     rfl
   · rw [← e3, ← e1]
     exact wait_goB (B := B) hn hs
   · rw [← e4]
     exact rest_goB (B := B) (t := B.now + al.tick)
end Tk
end
section
namespace Tk
open PySem L2 Mir Tb
inductive Deed where
 | set (due : Int) (step : Option Int) (name : Str)
 | pass (t : Int)
 | move (k due : Int)
 | back (k due : Int)
 | rest (k due : Int)
 | on (k due : Int)
inductive Ret where
 | int (i : Int)
 | str (x : Str)
 | non
 | rings (rs : List (Int × Int × Str))
inductive Does : Deed → Vw → Ret → Vw → Prop where
 | setNo {v : Vw} {due : Int} {step : Option Int} {name : Str} : (due ≤ v.now ∨ ∃ s, step = some s ∧ s < 1) → Does (.set due step name) v (.str "past") v
 | setOk {v : Vw} {due : Int} {step : Option Int} {name : Str} : v.now < due → (∀ s, step = some s → 1 ≤ s) → Does (.set due step name) v (.int v.next) { v with next := v.next + 1, wait := fput v.wait v.next (some ⟨name, due, step⟩) }
 | passNo {v : Vw} {t : Int} : t < 0 → Does (.pass t) v (.str "past") v
 | passOk {v : Vw} {t : Int} {rs : List (Int × Int × Str)} {g : Fn Str} : 0 ≤ t → Runs (v.now + t) v.wait rs g → Does (.pass t) v (.rings rs) { v with now := v.now + t, wait := g }
 | moveNo {v : Vw} {k due : Int} : v.wait k = none → Does (.move k due) v (.str "there") v
 | moveNo2 {v : Vw} {k due : Int} {al : Al Str} : v.wait k = some al → due ≤ v.now → Does (.move k due) v (.str "past") v
 | moveOk {v : Vw} {k due : Int} {al : Al Str} : v.wait k = some al → v.now < due → Does (.move k due) v .non { v with wait := fput v.wait k (some ⟨al.name, due, al.step⟩) }
 | backNo {v : Vw} {k due : Int} : v.wait k = none → v.rest k = none → Does (.back k due) v (.str "there") v
 | backW {v : Vw} {k due : Int} {al : Al Str} : v.wait k = some al → Does (.back k due) v (.str al.name) { v with wait := fput v.wait k none }
 | backR {v : Vw} {k due : Int} {al : Al Str} : v.wait k = none → v.rest k = some al → Does (.back k due) v (.str al.name) { v with rest := fput v.rest k none }
 | restNo {v : Vw} {k due : Int} : v.wait k = none → Does (.rest k due) v (.str "there") v
 | restOk {v : Vw} {k due : Int} {al : Al Str} : v.wait k = some al → Does (.rest k due) v .non { v with wait := fput v.wait k none, rest := fput v.rest k (some ⟨al.name, al.tick - v.now, al.step⟩) }
 | onNo {v : Vw} {k due : Int} : v.rest k = none → Does (.on k due) v (.str "there") v
 | onOk {v : Vw} {k due : Int} {al : Al Str} : v.rest k = some al → Does (.on k due) v .non { v with rest := fput v.rest k none, wait := fput v.wait k (some ⟨al.name, v.now + al.tick, al.step⟩) }
theorem Does.unique {d : Deed} {v v1 v2 : Vw} {r1 r2 : Ret} (a : Does d v r1 v1) (b : Does d v r2 v2) : r1 = r2 ∧ v1 = v2 := by
 cases a with
 | setNo h =>
   cases b with
   | setNo _ => exact ⟨rfl, rfl⟩
   | setOk h1 h2 =>
     rcases h with h | ⟨s, e, h⟩
     · omega
     · have := h2 s e; omega
 | setOk h1 h2 =>
   cases b with
   | setNo h =>
     rcases h with h | ⟨s, e, h⟩
     · omega
     · have := h2 s e; omega
   | setOk _ _ => exact ⟨rfl, rfl⟩
 | passNo h =>
   cases b with
   | passNo _ => exact ⟨rfl, rfl⟩
   | passOk h1 _ => omega
 | passOk h r =>
   cases b with
   | passNo _ => omega
   | passOk _ r' =>
     obtain ⟨rfl, rfl⟩ := r.unique r'
     exact ⟨rfl, rfl⟩
 | moveNo h =>
   cases b with
   | moveNo _ => exact ⟨rfl, rfl⟩
   | moveNo2 e _ => rw [h] at e; cases e
   | moveOk e _ => rw [h] at e; cases e
 | moveNo2 h h1 =>
   cases b with
   | moveNo e => rw [h] at e; cases e
   | moveNo2 _ _ => exact ⟨rfl, rfl⟩
   | moveOk _ h2 => omega
 | moveOk h h1 =>
   cases b with
   | moveNo e => rw [h] at e; cases e
   | moveNo2 _ h2 => omega
   | moveOk e _ => rw [h] at e; cases e; exact ⟨rfl, rfl⟩
 | backNo h h1 =>
   cases b with
   | backNo _ _ => exact ⟨rfl, rfl⟩
   | backW e => rw [h] at e; cases e
   | backR _ e => rw [h1] at e; cases e
 | backW h =>
   cases b with
   | backNo e _ => rw [h] at e; cases e
   | backW e => rw [h] at e; cases e; exact ⟨rfl, rfl⟩
   | backR e _ => rw [h] at e; cases e
 | backR h h1 =>
   cases b with
   | backNo _ e => rw [h1] at e; cases e
   | backW e => rw [h] at e; cases e
   | backR _ e => rw [h1] at e; cases e; exact ⟨rfl, rfl⟩
 | restNo h =>
   cases b with
   | restNo _ => exact ⟨rfl, rfl⟩
   | restOk e => rw [h] at e; cases e
 | restOk h =>
   cases b with
   | restNo e => rw [h] at e; cases e
   | restOk e => rw [h] at e; cases e; exact ⟨rfl, rfl⟩
 | onNo h =>
   cases b with
   | onNo _ => exact ⟨rfl, rfl⟩
   | onOk e => rw [h] at e; cases e
 | onOk h =>
   cases b with
   | onNo e => rw [h] at e; cases e
   | onOk e => rw [h] at e; cases e; exact ⟨rfl, rfl⟩
def NmOk (x : Str) : Prop := PyData.strOk x = true ∧ x ≠ "wrong"
structure AlOk (a : Al Str) : Prop where
 nm : NmOk a.name
 st : ∀ s, a.step = some s → 0 < s ∧ s < 2 ^ 100
structure LOk (j : Nat) (v : Vw) : Prop where
 j24 : j ≤ 24
 sl : 2 ≤ v.S ∧ v.S ≤ 64
 now : 0 ≤ v.now ∧ v.now ≤ j * 10000000000000
 next : 0 ≤ v.next ∧ v.next ≤ j
 wait : ∀ k a, v.wait k = some a → (0 ≤ k ∧ k < v.next) ∧ v.now < a.tick ∧ AlOk a
 rest : ∀ k a, v.rest k = some a → (0 ≤ k ∧ k < v.next) ∧ 0 < a.tick ∧ AlOk a
def SY (v : Vw) : Deed → Prop
 | .set due step name => Lg due ∧ (∀ s, step = some s → s < 2 ^ 100 ∧ Lg s) ∧ NmOk name
 | .pass t => Lg t ∧ t ≤ 10000000000000 ∧ (0 ≤ t → muF (v.now + t) 63 v.wait ≤ 1000000)
 | .move k due => Lg k ∧ Lg due
 | .back k _ => Lg k
 | .rest k _ => Lg k
 | .on k _ => Lg k
def RetOk : Ret → Prop
 | .str x => NmOk x
 | .rings rs => ∀ r ∈ rs, PyData.strOk r.2.2 = true
 | _ => True
theorem after_al {a b : Al Str} (h : after a = some b) : b.name = a.name ∧ b.step = a.step := by
 unfold after at h
 cases hs : a.step with
 | none => rw [hs] at h; cases h
 | some k => rw [hs] at h; cases h; exact ⟨rfl, rfl⟩
theorem runs_al {goal : Int} {f g : Fn Str} {rs : List (Int × Int × Str)} (h : Runs goal f rs g) : (∀ k b, g k = some b → ∃ a, f k = some a ∧ b.name = a.name ∧ b.step = a.step) ∧ ∀ r ∈ rs, ∃ k a, f k = some a ∧ r.2.2 = a.name := by
 induction h with
 | stop _ => exact ⟨fun k b e => ⟨b, e, rfl, rfl⟩, fun r hr => by cases hr⟩
 | @ring f g n a l nx r ih =>
   have back : ∀ k b, fput f n (after a) k = some b → ∃ a, f k = some a ∧ b.name = a.name ∧ b.step = a.step := fun k b e => by
     by_cases hk : k = n
     · subst hk
       rw [YE] at e
       exact ⟨a, nx.there, after_al e⟩
     · rw [XD _ _ hk] at e
       exact ⟨b, e, rfl, rfl⟩
   refine ⟨fun k b e => ?_, fun r hr => ?_⟩
   · obtain ⟨c, h1, h2, h3⟩ := ih.1 k b e
     obtain ⟨d, h4, h5, h6⟩ := back k c h1
     exact ⟨d, h4, h2.trans h5, h3.trans h6⟩
   · rcases List.mem_cons.mp hr with e | hr
     · subst e
       exact ⟨n, a, nx.there, rfl⟩
     · obtain ⟨k, c, h1, h2⟩ := ih.2 r hr
       obtain ⟨d, h4, h5, _⟩ := back k c h1
       exact ⟨k, d, h4, h2.trans h5⟩
theorem LOk.up {j : Nat} {v : Vw} (o : LOk j v) (h : j < 24) : LOk (j + 1) v := by
 have n1 := o.now
 have n2 := o.next
 exact ⟨by omega, o.sl, ⟨n1.1, by omega⟩, ⟨n2.1, by omega⟩, o.wait, o.rest⟩
theorem LOk.does {j : Nat} {v v' : Vw} {d : Deed} {r : Ret} (o : LOk j v) (hj : j < 24) (dk : SY v d) (h : Does d v r v') (okP : NmOk "past") (okT : NmOk "there") : LOk (j + 1) v' ∧ RetOk r := by
 have n1 := o.now
 have n2 := o.next
 have u := o.up hj
 cases h with
 | setNo _ => exact ⟨u, okP⟩
 | @setOk _ due step name h1 h2 =>
   refine ⟨⟨by omega, o.sl, ⟨n1.1, by show v.now ≤ _; omega⟩, ⟨by show 0 ≤ v.next + 1; omega, by show v.next + 1 ≤ _; omega⟩, fun k a e => ?_, fun k a e => ?_⟩, trivial⟩
   · by_cases hk : k = v.next
     · subst hk
       have e' : fput v.wait v.next (some ⟨name, due, step⟩) v.next = some a := e
       rw [YE] at e'
       cases e'
       exact ⟨⟨n2.1, by show v.next < v.next + 1; omega⟩, h1, dk.2.2, fun s hs => ⟨by have := h2 s hs; omega, (dk.2.1 s hs).1⟩⟩
     · have e' : fput v.wait v.next (some ⟨name, due, step⟩) k = some a := e
       rw [XD _ _ hk] at e'
       obtain ⟨w1, w2⟩ := o.wait k a e'
       exact ⟨⟨w1.1, by show k < v.next + 1; omega⟩, w2⟩
   · obtain ⟨w1, w2⟩ := o.rest k a e
     exact ⟨⟨w1.1, by show k < v.next + 1; omega⟩, w2⟩
 | passNo _ => exact ⟨u, okP⟩
 | @passOk _ t rs g h1 h2 =>
   obtain ⟨_, dk2, _⟩ := dk
   obtain ⟨r1, r2⟩ := runs_al h2
   refine ⟨⟨by omega, o.sl, ⟨by show 0 ≤ v.now + t; omega, by show v.now + t ≤ _; omega⟩, ⟨n2.1, by show v.next ≤ _; omega⟩, fun k a e => ?_, o.rest⟩, fun r hr => ?_⟩
   · obtain ⟨b, e1, e2, e3⟩ := r1 k a e
     obtain ⟨w1, w2, w3⟩ := o.wait k b e1
     exact ⟨w1, h2.end k a e, by rw [e2]; exact w3.nm, fun s hs => w3.st s (by rw [← e3]; exact hs)⟩
   · obtain ⟨k, a, e1, e2⟩ := r2 r hr
     rw [e2]
     exact (o.wait k a e1).2.2.nm.1
 | moveNo _ => exact ⟨u, okT⟩
 | moveNo2 _ _ => exact ⟨u, okP⟩
 | @moveOk _ k due al h1 h2 =>
   obtain ⟨w1, w2, w3⟩ := o.wait k al h1
   refine ⟨⟨u.j24, u.sl, u.now, u.next, fun k' a e => ?_, o.rest⟩, trivial⟩
   have e' : fput v.wait k (some ⟨al.name, due, al.step⟩) k' = some a := e
   by_cases hk : k' = k
   · subst hk
     rw [YE] at e'
     cases e'
     exact ⟨w1, h2, w3.nm, w3.st⟩
   · rw [XD _ _ hk] at e'
     exact o.wait k' a e'
 | backNo _ _ => exact ⟨u, okT⟩
 | @backW _ k due al h1 =>
   obtain ⟨w1, w2, w3⟩ := o.wait k al h1
   refine ⟨⟨u.j24, u.sl, u.now, u.next, fun k' a e => ?_, o.rest⟩, w3.nm⟩
   have e' : fput v.wait k none k' = some a := e
   by_cases hk : k' = k
   · subst hk; rw [YE] at e'; cases e'
   · rw [XD _ _ hk] at e'
     exact o.wait k' a e'
 | @backR _ k due al h0 h1 =>
   obtain ⟨w1, w2, w3⟩ := o.rest k al h1
   refine ⟨⟨u.j24, u.sl, u.now, u.next, o.wait, fun k' a e => ?_⟩, w3.nm⟩
   have e' : fput v.rest k none k' = some a := e
   by_cases hk : k' = k
   · subst hk; rw [YE] at e'; cases e'
   · rw [XD _ _ hk] at e'
     exact o.rest k' a e'
 | restNo _ => exact ⟨u, okT⟩
 | @restOk _ k due al h1 =>
   obtain ⟨w1, w2, w3⟩ := o.wait k al h1
   refine ⟨⟨u.j24, u.sl, u.now, u.next, fun k' a e => ?_, fun k' a e => ?_⟩, trivial⟩
   · have e' : fput v.wait k none k' = some a := e
     by_cases hk : k' = k
     · subst hk; rw [YE] at e'; cases e'
     · rw [XD _ _ hk] at e'
       exact o.wait k' a e'
   · have e' : fput v.rest k (some ⟨al.name, al.tick - v.now, al.step⟩) k' = some a := e
     by_cases hk : k' = k
     · subst hk
       rw [YE] at e'
       cases e'
       exact ⟨w1, by show 0 < al.tick - v.now; omega, w3.nm, w3.st⟩
     · rw [XD _ _ hk] at e'
       exact o.rest k' a e'
 | onNo _ => exact ⟨u, okT⟩
 | @onOk _ k due al h1 =>
   obtain ⟨w1, w2, w3⟩ := o.rest k al h1
   refine ⟨⟨u.j24, u.sl, u.now, u.next, fun k' a e => ?_, fun k' a e => ?_⟩, trivial⟩
   · have e' : fput v.wait k (some ⟨al.name, v.now + al.tick, al.step⟩) k' = some a := e
     by_cases hk : k' = k
     · subst hk
       rw [YE] at e'
       cases e'
       exact ⟨w1, by show v.now < v.now + al.tick; omega, w3.nm, w3.st⟩
     · rw [XD _ _ hk] at e'
       exact o.wait k' a e'
   · have e' : fput v.rest k none k' = some a := e
     by_cases hk : k' = k
     · subst hk; rw [YE] at e'; cases e'
     · rw [XD _ _ hk] at e'
       exact o.rest k' a e'
theorem LOk.good {j : Nat} {v : Vw} (o : LOk j v) : GoodF 63 v.wait := fun k a e => by
 obtain ⟨w1, w2, w3⟩ := o.wait k a e
 have := o.next
 have := o.j24
 exact ⟨⟨w1.1, by omega⟩, fun s hs => (w3.st s hs).1⟩
theorem muF_bound {goal : Int} {f : Fn Str} {m : Nat} (h : ∀ k a, f k = some a → cnt goal a ≤ m) (N : Nat) : muF goal N f ≤ N * m := by
 unfold muF
 induction N with
 | zero => exact Nat.zero_le _
 | succ N ih =>
   rw [List.range_succ, List.map_append, List.sum_append]
   have : cntO goal (f (N : Int)) ≤ m := by
     cases e : f (N : Int) with
     | none => exact Nat.zero_le _
     | some al => exact h _ _ e
   simp only [List.map_cons, List.map_nil, List.sum_cons, List.sum_nil]
   rw [Nat.succ_mul]
   omega
theorem cnt_few {now t : Int} {a : Al Str} (ah : now < a.tick) (h0 : 0 ≤ t) (h : ∀ s, a.step = some s → 0 < s ∧ t / s ≤ 60) : cnt (now + t) a ≤ 61 := by
 unfold cnt
 by_cases hd : a.tick ≤ now + t
 · rw [if_pos hd]
   cases hs : a.step with
   | none => show 1 ≤ 61; decide
   | some s =>
     obtain ⟨h1, h2⟩ := h s hs
     show ((now + t - a.tick) / s + 1).toNat ≤ 61
     have : (now + t - a.tick) / s ≤ t / s := Int.ediv_le_ediv h1 (by omega)
     omega
 · rw [if_neg hd]
   exact Nat.zero_le _
theorem mu_few {v : Vw} {t : Int} {j : Nat} (o : LOk j v) (h : ∀ k a s, v.wait k = some a → a.step = some s → t / s ≤ 60) (h0 : 0 ≤ t) : muF (v.now + t) 63 v.wait ≤ 1000000 := by
 refine Nat.le_trans (muF_bound (m := 61) (fun k a e => ?_) 63) (by decide)
 obtain ⟨w1, w2, w3⟩ := o.wait k a e
 exact cnt_few w2 h0 fun s hs => ⟨(w3.st s hs).1, h k a s e hs⟩
theorem div_small {t s : Int} (h0 : 0 ≤ t) (h1 : t < 30) (hs : 0 < s) : t / s ≤ 60 := by
 have : t / s ≤ t := Int.ediv_le_self _ h0
 omega
theorem sum_each {l : List Int} {m : Int} (h : ∀ x ∈ l, 0 ≤ x) (hm : l.sum ≤ m) : ∀ x ∈ l, x ≤ m := by
 induction l generalizing m with
 | nil => intro x hx; cases hx
 | cons y l ih =>
   rw [List.sum_cons] at hm
   have hy := h y List.mem_cons_self
   have hl : ∀ x ∈ l, 0 ≤ x := fun x hx => h x (List.mem_cons_of_mem _ hx)
   have hs : 0 ≤ l.sum := by
     clear ih hm
     induction l with
     | nil => decide
     | cons z l ih2 =>
       rw [List.sum_cons]
       have := hl z List.mem_cons_self
       have := ih2 (fun x hx => by
         rcases List.mem_cons.mp hx with e | hx
         · exact e ▸ hy
         · exact h x (List.mem_cons_of_mem _ (List.mem_cons_of_mem _ hx))) fun x hx => hl x (List.mem_cons_of_mem _ hx)
       omega
   intro x hx
   rcases List.mem_cons.mp hx with e | hx
   · subst e; omega
   · exact ih hl (by omega) x hx
end Tk
end
section
namespace Tk
open PySem L2 Mir Rk Tb
open PyProof.Rows (boot_sorted boot_min boot_enumerate boot_isinstance boot_sum boot_max)
variable {P : Program} {w : World} {K : W.Frag} {mg : Str → Option Value} {base : Heap} {a : Ad}
theorem VB {x : Int} (h1 : -(2 ^ 100) < x) (h2 : x < 2 ^ 100) : Lg x := by
 unfold Lg
 by_cases hz : x.natAbs = 0
 · rw [hz]; decide
 · have h : x.natAbs < 2 ^ 100 := by omega
   exact Nat.lt_trans ((Nat.log2_lt hz).mpr h) (by decide)
theorem pick {xs : List V} {i : Int} (h0 : 0 ≤ i) (h1 : i < (xs.length : Int)) : ∃ v, atI xs i = some v ∧ v ∈ xs := by
 obtain ⟨j, rfl⟩ : ∃ j : Nat, i = (j : Int) := ⟨i.toNat, (Int.toNat_of_nonneg h0).symm⟩
 have hj : j < xs.length := by omega
 exact ⟨xs[j], VA (by simp [hj]), List.getElem_mem hj⟩
theorem pickI {ns : List Int} {i : Int} (h0 : 0 ≤ i) (h1 : i < (ns.length : Int)) : ∃ x, atI (ns.map V.int) i = some (V.int x) ∧ x ∈ ns := by
 obtain ⟨v, h2, h3⟩ := pick (xs := ns.map V.int) h0 (by simpa using h1)
 obtain ⟨x, hx, rfl⟩ := List.mem_map.mp h3
 exact ⟨x, h2, hx⟩
theorem pickS {ns : List Str} {i : Int} (h0 : 0 ≤ i) (h1 : i < (ns.length : Int)) : ∃ x, atI (ns.map V.str) i = some (V.str x) ∧ x ∈ ns := by
 obtain ⟨v, h2, h3⟩ := pick (xs := ns.map V.str) h0 (by simpa using h1)
 obtain ⟨x, hx, rfl⟩ := List.mem_map.mp h3
 exact ⟨x, h2, hx⟩
theorem BookAt.ob {c : Cl} {H0 H : Hp} {p : Addr} {v : Vw} (b : BookAt c H0 H p v) : ∃ dx r x y n1 n2 n3 n4, H p = some (.ins c.Book dx (SX r x y n1 n2 n3 n4)) := by
 obtain ⟨A, sl, B, rfl, b, _⟩ := b
 exact ⟨_, _, _, _, _, _, _, _, b.book⟩
theorem BookAt.same {c : Cl} {H0 H : Hp} {p : Addr} {v : Vw} (b : BookAt c H0 H p v) : Same H0 H := by
 obtain ⟨A, sl, B, _, b, _⟩ := b
 exact b.same
theorem BookAt.up {c : Cl} {H0 H H' : Hp} {p : Addr} {v : Vw} (b : BookAt c H0 H p v) (s : Same H H') : BookAt c H0 H' p v := by
 obtain ⟨A, sl, B, e, b, r⟩ := b
 exact ⟨A, sl, B, e, b.up s, r⟩
theorem BookAt.out {c : Cl} {H0 H : Hp} {p : Addr} {v : Vw} (b : BookAt c H0 H p v) {x : Addr} {o : HO} (hx : H x = none ∨ ∃ u, H0 x = some u) : BookAt c (upd H0 x o) (upd H x o) p v := by
 obtain ⟨A, sl, B, e, b, r⟩ := b
 exact ⟨A, sl, B, e, b.out hx, r⟩
structure Fr (W : List Addr) (H0 H H0' H' : Hp) : Prop where
 same : Same H0' H'
 keep : ∀ x o, x ∉ W → H0 x = some o → H0' x = some o
 own : ∀ x o, H x = some o → H0 x = none → H' x = some o ∧ H0' x = none
theorem Fr.refl {W : List Addr} {H0 H : Hp} (s : Same H0 H) : Fr W H0 H H0 H := ⟨s, fun _ _ _ h => h, fun _ _ h h0 => ⟨h, h0⟩⟩
theorem Fr.trans {W : List Addr} {H0 H H1 H1' H2 H2' : Hp} (a : Fr W H0 H H1 H1') (b : Fr W H1 H1' H2 H2') : Fr W H0 H H2 H2' :=
 ⟨b.same, fun x o hx h => b.keep x o hx (a.keep x o hx h), fun x o h h0 => by
   obtain ⟨u, u0⟩ := a.own x o h h0
   exact b.own x o u u0⟩
theorem ZV {H0 H : Hp} (s : Same H0 H) (x : Addr) (o : HO) : Same (upd H0 x o) (upd H x o) := fun y u h => by
 by_cases z : y = x
 · subst z
   rw [Zb] at h ⊢
   exact h
 · rw [Zc z] at h ⊢
   exact s y u h
theorem Fr.new {W : List Addr} {H0 H : Hp} (s : Same H0 H) {x : Addr} {o : HO} (h : H x = none) : Fr W H0 H (upd H0 x o) (upd H x o) :=
 ⟨ZV s x o, fun y u _ hy => by rw [Zc (Zn hy (s.free h))]; exact hy, fun y u hy h0 => by
   rw [Zc (Zn hy h), Zc (Zn hy h)]
   exact ⟨hy, h0⟩⟩
theorem Fr.wr {W : List Addr} {H0 H : Hp} (s : Same H0 H) {x : Addr} {o u : HO} (hx : H0 x = some u) (hw : x ∈ W) : Fr W H0 H (upd H0 x o) (upd H x o) :=
 ⟨ZV s x o, fun y u hy h => by rw [Zc (fun z : y = x => hy (by rw [z]; exact hw))]; exact h, fun y u hy h0 => by
   have ne : y ≠ x := fun z => by rw [z, hx] at h0; cases h0
   rw [Zc ne, Zc ne]
   exact ⟨hy, h0⟩⟩
theorem Fr.wide {W : List Addr} {H0 H H0' H' : Hp} (f : Fr [] H0 H H0' H') : Fr W H0 H H0' H' := ⟨f.same, fun x o _ h => f.keep x o (by simp) h, f.own⟩
theorem Fr.grow {H0 H H0' H' : Hp} (f : Fr [] H0 H H0' H') : Same H0 H0' := fun x o h => f.keep x o (by simp) h
theorem BookAt.fr {c : Cl} {W : List Addr} {H0 H H0' H' : Hp} {p : Addr} {v : Vw} (b : BookAt c H0 H p v) (f : Fr W H0 H H0' H') : BookAt c H0' H' p v := by
 obtain ⟨A, sl, B, e, b, r⟩ := b
 exact ⟨A, sl, B, e, ⟨f.same, fun l o h => (f.own _ _ (b.here l o h) (b.free l o h)).2, fun l o h => (f.own _ _ (b.here l o h) (b.free l o h)).1, b.inj⟩, r⟩
abbrev TabA := Dct (Addr × Al Str)
def tabV (t : TabA) : List (Key × V) := mapK (fun _ x => V.ref x.1) t
def alV (a : Al Str) : List V := [.str a.name, .int a.tick, Vc a.step]
def fnT (t : TabA) : Fn Str := fun k => (get t k).map (·.2)
def wdV (v : Vw) (dw dr : Addr) : List (Key × V) := [(Sum.inr "slots", .int v.S), (Sum.inr "levels", .int v.n), (Sum.inr "now", .int v.now), (Sum.inr "many", .int v.next), (Sum.inr "waits", .ref dw), (Sum.inr "rests", .ref dr)]
structure WAt (H : Hp) (q dw dr : Addr) (tw tr : TabA) (v : Vw) : Prop where
 top : H q = some (.dK (wdV v dw dr))
 wts : H dw = some (.dK (tabV tw))
 rts : H dr = some (.dK (tabV tr))
 aw : ∀ p ∈ tw, H p.2.1 = some (.tup (alV p.2.2))
 ar : ∀ p ∈ tr, H p.2.1 = some (.tup (alV p.2.2))
 n1 : q ≠ dw
 n2 : q ≠ dr
 n3 : dw ≠ dr
 ndw : (keys tw).Nodup
 ndr : (keys tr).Nodup
 ew : fnT tw = v.wait
 er : fnT tr = v.rest
theorem Sg (t : TabA) (k : Int) (x : Addr × Al Str) : fnT (put t k x) = fput (fnT t) k (some x.2) := by
 funext m
 show (get (put t k x) m).map (·.2) = if m = k then some x.2 else (get t m).map (·.2)
 rw [ZB]
 by_cases e : m = k <;> simp [e]
theorem VL (t : TabA) (k : Int) : fnT (drop t k) = fput (fnT t) k none := by
 funext m
 show (get (drop t k) m).map (·.2) = if m = k then none else (get t m).map (·.2)
 rw [Zx]
 by_cases e : m = k <;> simp [e]
theorem SO {t : TabA} {k : Int} {a : Al Str} (h : fnT t k = some a) : ∃ x, get t k = some (x, a) := by
 have h' : (get t k).map (·.2) = some a := h
 cases e : get t k with
 | none => rw [e] at h'; cases h'
 | some y =>
   rw [e] at h'
   cases h'
   exact ⟨y.1, rfl⟩
theorem fnT_none {t : TabA} {k : Int} (h : fnT t k = none) : get t k = none := by
 have h' : (get t k).map (·.2) = none := h
 cases e : get t k with
 | none => rfl
 | some y => rw [e] at h'; cases h'
theorem mem_put {α : Type} {t : Dct α} {k : Int} {x : α} {p : Int × α} (h : p ∈ put t k x) : p ∈ t ∨ p = (k, x) := by
 unfold put at h
 by_cases c : (t.any fun p => decide (p.1 = k)) = true
 · rw [if_pos c] at h
   obtain ⟨y, hy, e⟩ := List.mem_map.mp h
   by_cases ek : y.1 = k
   · rw [if_pos ek] at e
     exact .inr (by rw [← e, ek])
   · rw [if_neg ek] at e
     exact .inl (e ▸ hy)
 · rw [if_neg c] at h
   rcases List.mem_append.mp h with h | h
   · exact .inl h
   · exact .inr (by simpa using h)
theorem mem_drop {α : Type} {t : Dct α} {k : Int} {p : Int × α} (h : p ∈ drop t k) : p ∈ t := (List.mem_filter.mp h).1
section
variable {v : Vw} {dw dr : Addr}
theorem wd_slots : valV (wdV v dw dr) (Sum.inr "slots") = some (.int v.S) := by kernel_rfl
theorem wd_now : valV (wdV v dw dr) (Sum.inr "now") = some (.int v.now) := by kernel_rfl
theorem wd_many : valV (wdV v dw dr) (Sum.inr "many") = some (.int v.next) := by kernel_rfl
theorem wd_waits : valV (wdV v dw dr) (Sum.inr "waits") = some (.ref dw) := by kernel_rfl
theorem wd_rests : valV (wdV v dw dr) (Sum.inr "rests") = some (.ref dr) := by kernel_rfl
theorem wd_pnow {x : Int} : putK (wdV v dw dr) (Sum.inr "now") (.int x) = wdV { v with now := x } dw dr := by kernel_rfl
theorem wd_pmany {x : Int} : putK (wdV v dw dr) (Sum.inr "many") (.int x) = wdV { v with next := x } dw dr := by kernel_rfl
end
section
variable {H H1 : Hp} {q dw dr : Addr} {tw tr : TabA} {v : Vw}
theorem WAt.up (w : WAt H q dw dr tw tr v) (s : Same H H1) : WAt H1 q dw dr tw tr v :=
 ⟨s _ _ w.top, s _ _ w.wts, s _ _ w.rts, fun p h => s _ _ (w.aw p h), fun p h => s _ _ (w.ar p h), w.n1, w.n2, w.n3, w.ndw, w.ndr, w.ew, w.er⟩
theorem WAt.gSlots (w : WAt H q dw dr tw tr v) : DGet H q (.str "slots") (some (.int v.S)) := wd_slots (v := v) (dw := dw) (dr := dr) ▸ DGet.k (k := Sum.inr "slots") w.top
theorem WAt.gNow (w : WAt H q dw dr tw tr v) : DGet H q (.str "now") (some (.int v.now)) := wd_now (v := v) (dw := dw) (dr := dr) ▸ DGet.k (k := Sum.inr "now") w.top
theorem WAt.gMany (w : WAt H q dw dr tw tr v) : DGet H q (.str "many") (some (.int v.next)) := wd_many (v := v) (dw := dw) (dr := dr) ▸ DGet.k (k := Sum.inr "many") w.top
theorem WAt.gWaits (w : WAt H q dw dr tw tr v) : DGet H q (.str "waits") (some (.ref dw)) := wd_waits (v := v) (dw := dw) (dr := dr) ▸ DGet.k (k := Sum.inr "waits") w.top
theorem WAt.gRests (w : WAt H q dw dr tw tr v) : DGet H q (.str "rests") (some (.ref dr)) := wd_rests (v := v) (dw := dw) (dr := dr) ▸ DGet.k (k := Sum.inr "rests") w.top
theorem WAt.gW (w : WAt H q dw dr tw tr v) (k : Int) : DGet H dw (.int k) ((get tw k).map fun x => .ref x.1) := by
 have := DGet.k (k := Sum.inl k) w.wts
 unfold tabV at this
 rw [ZW] at this
 exact this
theorem WAt.gR (w : WAt H q dw dr tw tr v) (k : Int) : DGet H dr (.int k) ((get tr k).map fun x => .ref x.1) := by
 have := DGet.k (k := Sum.inl k) w.rts
 unfold tabV at this
 rw [ZW] at this
 exact this
theorem WAt.vW (w : WAt H q dw dr tw tr v) {k : Int} {x : Addr × Al Str} (h : get tw k = some x) : valV (tabV tw) (Sum.inl k) = some (.ref x.1) := by
 unfold tabV
 rw [ZW, h]
 rfl
theorem WAt.vR (w : WAt H q dw dr tw tr v) {k : Int} {x : Addr × Al Str} (h : get tr k = some x) : valV (tabV tr) (Sum.inl k) = some (.ref x.1) := by
 unfold tabV
 rw [ZW, h]
 rfl
theorem WAt.pNow (w : WAt H q dw dr tw tr v) (x : Int) : DPut H q (.str "now") (.int x) (upd H q (.dK (wdV { v with now := x } dw dr))) := by
 rw [← wd_pnow]
 exact DPut.k (k := Sum.inr "now") w.top (by show 6 < sizeLine; decide)
theorem WAt.pMany (w : WAt H q dw dr tw tr v) (x : Int) : DPut H q (.str "many") (.int x) (upd H q (.dK (wdV { v with next := x } dw dr))) := by
 rw [← wd_pmany]
 exact DPut.k (k := Sum.inr "many") w.top (by show 6 < sizeLine; decide)
theorem WAt.pW (w : WAt H q dw dr tw tr v) (k : Int) (x : Addr) (a : Al Str) (hl : tw.length ≤ 1000) : DPut H dw (.int k) (.ref x) (upd H dw (.dK (tabV (put tw k (x, a))))) := by
 have e : putK (tabV tw) (Sum.inl k) (.ref x) = tabV (put tw k (x, a)) := XQ (fun _ (x : Addr × Al Str) => V.ref x.1) tw k (x, a)
 rw [← e]
 exact DPut.k (k := Sum.inl k) w.wts (by unfold tabV; rw [YG]; have : (1001 : Nat) ≤ sizeLine := by decide
                                         omega)
theorem WAt.pR (w : WAt H q dw dr tw tr v) (k : Int) (x : Addr) (a : Al Str) (hl : tr.length ≤ 1000) : DPut H dr (.int k) (.ref x) (upd H dr (.dK (tabV (put tr k (x, a))))) := by
 have e : putK (tabV tr) (Sum.inl k) (.ref x) = tabV (put tr k (x, a)) := XQ (fun _ (x : Addr × Al Str) => V.ref x.1) tr k (x, a)
 rw [← e]
 exact DPut.k (k := Sum.inl k) w.rts (by unfold tabV; rw [YG]; have : (1001 : Nat) ≤ sizeLine := by decide
                                         omega)
theorem WAt.wTop (w : WAt H q dw dr tw tr v) {v' : Vw} (h1 : v'.wait = v.wait) (h2 : v'.rest = v.rest) : WAt (upd H q (.dK (wdV v' dw dr))) q dw dr tw tr v' := by
 have nt : ∀ {x : Addr} {xs : List V}, H x = some (.tup xs) → x ≠ q := fun h z => by rw [z, w.top] at h; cases h
 refine ⟨Zb, by rw [Zc w.n1.symm]; exact w.wts, by rw [Zc w.n2.symm]; exact w.rts, fun p h => ?_, fun p h => ?_, w.n1, w.n2, w.n3, w.ndw, w.ndr, w.ew.trans h1.symm, w.er.trans h2.symm⟩
 · rw [Zc (nt (w.aw p h))]; exact w.aw p h
 · rw [Zc (nt (w.ar p h))]; exact w.ar p h
theorem WAt.wW (w : WAt H q dw dr tw tr v) {t : TabA} (nd : (keys t).Nodup) (h : ∀ p ∈ t, H p.2.1 = some (.tup (alV p.2.2))) {f : Fn Str} (hf : fnT t = f) : WAt (upd H dw (.dK (tabV t))) q dw dr t tr { v with wait := f } := by
 have nt : ∀ {x : Addr} {xs : List V}, H x = some (.tup xs) → x ≠ dw := fun h z => by rw [z, w.wts] at h; cases h
 refine ⟨by rw [Zc w.n1]; exact w.top, Zb, by rw [Zc w.n3.symm]; exact w.rts, fun p hp => ?_, fun p hp => ?_, w.n1, w.n2, w.n3, nd, w.ndr, hf, w.er⟩
 · rw [Zc (nt (h p hp))]; exact h p hp
 · rw [Zc (nt (w.ar p hp))]; exact w.ar p hp
theorem WAt.wR (w : WAt H q dw dr tw tr v) {t : TabA} (nd : (keys t).Nodup) (h : ∀ p ∈ t, H p.2.1 = some (.tup (alV p.2.2))) {f : Fn Str} (hf : fnT t = f) : WAt (upd H dr (.dK (tabV t))) q dw dr tw t { v with rest := f } := by
 have nt : ∀ {x : Addr} {xs : List V}, H x = some (.tup xs) → x ≠ dr := fun h z => by rw [z, w.rts] at h; cases h
 refine ⟨by rw [Zc w.n2]; exact w.top, by rw [Zc w.n3]; exact w.wts, Zb, fun p hp => ?_, fun p hp => ?_, w.n1, w.n2, w.n3, w.ndw, nd, w.ew, hf⟩
 · rw [Zc (nt (w.aw p hp))]; exact w.aw p hp
 · rw [Zc (nt (h p hp))]; exact h p hp
theorem WAt.putW (w : WAt H q dw dr tw tr v) {k : Int} {x : Addr} {a : Al Str} (hx : H x = some (.tup (alV a))) : WAt (upd H dw (.dK (tabV (put tw k (x, a))))) q dw dr (put tw k (x, a)) tr { v with wait := fput v.wait k (some a) } :=
 w.wW (ZY w.ndw _ _) (fun p hp => by
   rcases mem_put hp with hp | e
   · exact w.aw p hp
   · rw [e]; exact hx) (by rw [Sg, w.ew])
theorem WAt.putR (w : WAt H q dw dr tw tr v) {k : Int} {x : Addr} {a : Al Str} (hx : H x = some (.tup (alV a))) : WAt (upd H dr (.dK (tabV (put tr k (x, a))))) q dw dr tw (put tr k (x, a)) { v with rest := fput v.rest k (some a) } :=
 w.wR (ZY w.ndr _ _) (fun p hp => by
   rcases mem_put hp with hp | e
   · exact w.ar p hp
   · rw [e]; exact hx) (by rw [Sg, w.er])
theorem WAt.popW (w : WAt H q dw dr tw tr v) (k : Int) : WAt (upd H dw (.dK (YF (tabV tw) (Sum.inl k)))) q dw dr (drop tw k) tr { v with wait := fput v.wait k none } := by
 have e : YF (tabV tw) (Sum.inl k) = tabV (drop tw k) := Xk _ tw k
 rw [e]
 exact w.wW (ZN w.ndw _) (fun p hp => w.aw p (mem_drop hp)) (by rw [VL, w.ew])
theorem WAt.popR (w : WAt H q dw dr tw tr v) (k : Int) : WAt (upd H dr (.dK (YF (tabV tr) (Sum.inl k)))) q dw dr tw (drop tr k) { v with rest := fput v.rest k none } := by
 have e : YF (tabV tr) (Sum.inl k) = tabV (drop tr k) := Xk _ tr k
 rw [e]
 exact w.wR (ZN w.ndr _) (fun p hp => w.ar p (mem_drop hp)) (by rw [VL, w.er])
theorem WAt.getW (w : WAt H q dw dr tw tr v) {k : Int} {a : Al Str} (h : v.wait k = some a) : ∃ x, get tw k = some (x, a) ∧ H x = some (.tup (alV a)) := by
 rw [← w.ew] at h
 obtain ⟨x, hx⟩ := SO h
 exact ⟨x, hx, w.aw (k, x, a) (XC hx)⟩
theorem WAt.getR (w : WAt H q dw dr tw tr v) {k : Int} {a : Al Str} (h : v.rest k = some a) : ∃ x, get tr k = some (x, a) ∧ H x = some (.tup (alV a)) := by
 rw [← w.er] at h
 obtain ⟨x, hx⟩ := SO h
 exact ⟨x, hx, w.ar (k, x, a) (XC hx)⟩
theorem WAt.noW (w : WAt H q dw dr tw tr v) {k : Int} (h : v.wait k = none) : get tw k = none := by rw [← w.ew] at h; exact fnT_none h
theorem WAt.noR (w : WAt H q dw dr tw tr v) {k : Int} (h : v.rest k = none) : get tr k = none := by rw [← w.er] at h; exact fnT_none h
theorem WAt.lens (w : WAt H q dw dr tw tr v) {j : Nat} (o : LOk j v) : tw.length ≤ 24 ∧ tr.length ≤ 24 := by
 have h1 := o.next
 have h2 := o.j24
 refine ⟨VT w.ndw fun k h => ?_, VT w.ndr fun k h => ?_⟩
 · obtain ⟨x, e⟩ := Option.isSome_iff_exists.mp h
   have := o.wait k x.2 (by rw [← w.ew]; show (get tw k).map (·.2) = _; rw [e]; rfl)
   omega
 · obtain ⟨x, e⟩ := Option.isSome_iff_exists.mp h
   have := o.rest k x.2 (by rw [← w.er]; show (get tr k).map (·.2) = _; rw [e]; rfl)
   omega
theorem WAt.atW (w : WAt H q dw dr tw tr v) {i : Nat} {k : Key} {y : V} (h : (tabV tw)[i]? = some (k, y)) : ∃ n x a, tw[i]? = some (n, x, a) ∧ k = Sum.inl n ∧ y = .ref x ∧ get tw n = some (x, a) ∧ v.wait n = some a ∧ H x = some (.tup (alV a)) := by
 unfold tabV mapK at h
 rw [List.getElem?_map] at h
 cases e : tw[i]? with
 | none => rw [e] at h; cases h
 | some p =>
   rw [e] at h
   cases h
   obtain ⟨n, x, a⟩ := p
   have hm : (n, x, a) ∈ tw := List.mem_of_getElem? e
   have hg := VW w.ndw hm
   exact ⟨n, x, a, rfl, rfl, rfl, hg, by rw [← w.ew]; show (get tw n).map (·.2) = _; rw [hg]; rfl, w.aw _ hm⟩
theorem WAt.atR (w : WAt H q dw dr tw tr v) {i : Nat} {k : Key} {y : V} (h : (tabV tr)[i]? = some (k, y)) : ∃ n x a, tr[i]? = some (n, x, a) ∧ k = Sum.inl n ∧ y = .ref x ∧ get tr n = some (x, a) ∧ v.rest n = some a ∧ H x = some (.tup (alV a)) := by
 unfold tabV mapK at h
 rw [List.getElem?_map] at h
 cases e : tr[i]? with
 | none => rw [e] at h; cases h
 | some p =>
   rw [e] at h
   cases h
   obtain ⟨n, x, a⟩ := p
   have hm : (n, x, a) ∈ tr := List.mem_of_getElem? e
   have hg := VW w.ndr hm
   exact ⟨n, x, a, rfl, rfl, rfl, hg, by rw [← w.er]; show (get tr n).map (·.2) = _; rw [hg]; rfl, w.ar _ hm⟩
theorem SL (t : TabA) : (tabV t).length = t.length := YG _ t
end
def Wld (H : Hp) (q dw dr : Addr) (v : Vw) : Prop := ∃ tw tr, WAt H q dw dr tw tr v
theorem Wld.up {H H1 : Hp} {q dw dr : Addr} {v : Vw} (w : Wld H q dw dr v) (s : Same H H1) : Wld H1 q dw dr v := by
 obtain ⟨tw, tr, w⟩ := w
 exact ⟨tw, tr, w.up s⟩
def RetAt (H : Hp) : Ret → V → Prop
 | .int i, x => x = .int i
 | .str s, x => x = .str s
 | .non, x => x = .non
 | .rings rs, x => ∃ l, x = .ref l ∧ RingsAt H l rs
theorem RingsAt.up {H H1 : Hp} {l : Addr} {rs : List (Int × Int × Str)} (h : RingsAt H l rs) (s : Same H H1) : RingsAt H1 l rs := by
 obtain ⟨qs, e, h1, h2⟩ := h
 exact ⟨qs, e, s _ _ h1, fun q hq => s _ _ (h2 q hq)⟩
theorem RetAt.up {H H1 : Hp} {r : Ret} {x : V} (h : RetAt H r x) (s : Same H H1) : RetAt H1 r x := by
 cases r with
 | int i => exact h
 | str y => exact h
 | non => exact h
 | rings rs =>
   obtain ⟨l, e, h⟩ := h
   exact ⟨l, e, h.up s⟩
def Ry (r : Int × Int × Str) : PyData := .tuple [.int r.1, .int r.2.1, .str r.2.2]
def retD : Ret → PyData
 | .int i => .int i
 | .str s => .str s
 | .non => .none
 | .rings rs => .list (rs.map Ry)
theorem RingsAt.den {K : W.Frag} {H : Hp} {l : Addr} {rs : List (Int × Int × Str)} (r : RingsAt H l rs) : Den K H (.ref l) (.list (rs.map Ry)) := by
 obtain ⟨qs, rfl, h, t⟩ := r
 refine .lst (SqL.of h) ?_
 clear h
 induction qs with
 | nil => exact .nil
 | cons q qs ih =>
   refine .cons (.tup (SqT.of (t q List.mem_cons_self)) (.cons (.int _) (.cons (.int _) (.cons (.str _) .nil)))) ?_
   exact ih fun q' h' => t q' (List.mem_cons_of_mem _ h')
theorem Xf {K : W.Frag} {H : Hp} {l : Addr} {ns : List Int} (h : H l = some (.lst (ns.map V.int))) : Den K H (.ref l) (.list (ns.map PyData.int)) := by
 refine .lst (SqL.of h) ?_
 clear h
 induction ns with
 | nil => exact .nil
 | cons n ns ih => exact .cons (.int n) ih
theorem RetAt.den {K : W.Frag} {H : Hp} {r : Ret} {x : V} (h : RetAt H r x) : Den K H x (retD r) := by
 cases r with
 | int i => cases h; exact .int i
 | str y => cases h; exact .str y
 | non => cases h; exact .non
 | rings rs =>
   obtain ⟨l, rfl, h⟩ := h
   exact h.den
theorem depth_rings (rs : List (Int × Int × Str)) : PyData.depthAll (rs.map Ry) ≤ 4 := by
 induction rs with
 | nil => exact Nat.zero_le _
 | cons r rs ih =>
   simp only [List.map_cons, PyData.depthAll, Ry, PyData.depth]
   omega
theorem QF {rs : List (Int × Int × Str)} (h : ∀ r ∈ rs, PyData.strOk r.2.2 = true) : PyData.canLayAll0 (rs.map Ry) = true := by
 induction rs with
 | nil => simp [PyData.canLayAll0]
 | cons r rs ih =>
   have h1 := h r List.mem_cons_self
   have h2 := ih fun r' hr => h r' (List.mem_cons_of_mem _ hr)
   simp [Ry, PyData.canLayAll0, PyData.canLay0, h1, h2]
theorem shaped_ret {r : Ret} (h : RetOk r) : SeqAt.shaped (retD r) = true := by
 cases r with
 | int i => simp [SeqAt.shaped, retD, PyData.canLay0, PyData.depth]
 | str y =>
   have h' : PyData.strOk y = true := h.1
   simp [SeqAt.shaped, retD, PyData.canLay0, PyData.depth, h']
 | non => simp [SeqAt.shaped, retD, PyData.canLay0, PyData.depth]
 | rings rs =>
   have h1 := QF (rs := rs) h
   have h2 := depth_rings rs
   simp [SeqAt.shaped, retD, PyData.canLay0, PyData.depth, h1]
   omega
theorem ZM (ns : List Int) : SeqAt.shaped (.list (ns.map PyData.int)) = true := by
 have h1 : PyData.canLayAll0 (ns.map PyData.int) = true := by
   induction ns with
   | nil => simp [PyData.canLayAll0]
   | cons n ns ih => simp [PyData.canLayAll0, PyData.canLay0, ih]
 have h2 : PyData.depthAll (ns.map PyData.int) ≤ 4 := by
   induction ns with
   | nil => exact Nat.zero_le _
   | cons n ns ih =>
     simp only [List.map_cons, PyData.depthAll, PyData.depth]
     have := ih (by simp [PyData.canLayAll0, PyData.canLay0] at h1; exact h1)
     omega
 simp [SeqAt.shaped, PyData.canLay0, PyData.depth, h1]
 omega
theorem RM {a : Addr} {o : Obj} {kvs : List (Key × V)} {fv : List (Option Nat)} {jx : Nat} {tc : TT} {te : TE} {σ : St} {H : Hp} {Q : VK} (Pv : Nat → List V → Hp → Prop) (h0 : Pv 0 [] H)
   (hl : ∀ i ys H, i ≤ kvs.length → Pv i ys H → H a = some (.frz o (.dK kvs)) ∧ ys.length < sizeLine)
   (hs : ∀ i k v ys H (N : List V → Hp → Prop), kvs[i]? = some (k, v) → Pv i ys H → (∀ ys' H3, Pv (i + 1) ys' H3 → N ys' H3) → tc ((blk fv σ).set jx (some (kV k))) H fun b H2 => if b = true then te ((blk fv σ).set jx (some (kV k))) H2 fun y H3 => N (ys ++ [y]) H3 else N ys H2)
   (hd : ∀ ys H, Pv kvs.length ys H → ∀ acc, H acc = none → Q (.ref acc) (upd H acc (.lst ys))) : UJ (Itd a o kvs) fv jx tc te σ H Q := by
 refine ⟨fun i m ys H => m = kvs.length - i ∧ i ≤ kvs.length ∧ Pv i ys H, ⟨kvs.length, by simp, Nat.zero_le _, h0⟩, ?_⟩
 rintro i m ys H ⟨rfl, hi, p⟩
 obtain ⟨q, hz⟩ := hl i ys H hi p
 refine ⟨hz, ?_⟩
 by_cases hlt : i < kvs.length
 · refine .inr ⟨⟨hlt, q⟩, fun x H' y => ?_⟩
   obtain ⟨e, k, v, hk, ex⟩ := y
   subst e ex
   exact hs i k v ys _ (fun ys' H3 => ∃ m', m' < kvs.length - i ∧ m' = kvs.length - (i + 1) ∧ i + 1 ≤ kvs.length ∧ Pv (i + 1) ys' H3) hk p fun ys' H3 p3 => ⟨_, by omega, rfl, hlt, p3⟩
 · have e : i = kvs.length := by omega
   subst e
   exact .inl ⟨⟨Nat.le_refl _, q⟩, hd ys H p⟩
theorem comp_vals {a : Addr} {o : Obj} {kvs : List (Key × V)} {fv : List (Option Nat)} {jx : Nat} {tc : TT} {te : TE} {σ : St} {H : Hp} {Q : VK} (Pv : Nat → List V → Hp → Prop) (h0 : Pv 0 [] H)
   (hl : ∀ i ys H, i ≤ kvs.length → Pv i ys H → H a = some (.frz o (.dK kvs)) ∧ ys.length < sizeLine)
   (hs : ∀ i k v ys H (N : List V → Hp → Prop), kvs[i]? = some (k, v) → Pv i ys H → (∀ ys' H3, Pv (i + 1) ys' H3 → N ys' H3) → tc ((blk fv σ).set jx (some v)) H fun b H2 => if b = true then te ((blk fv σ).set jx (some v)) H2 fun y H3 => N (ys ++ [y]) H3 else N ys H2)
   (hd : ∀ ys H, Pv kvs.length ys H → ∀ acc, H acc = none → Q (.ref acc) (upd H acc (.lst ys))) : UJ (Itv a o kvs) fv jx tc te σ H Q := by
 refine ⟨fun i m ys H => m = kvs.length - i ∧ i ≤ kvs.length ∧ Pv i ys H, ⟨kvs.length, by simp, Nat.zero_le _, h0⟩, ?_⟩
 rintro i m ys H ⟨rfl, hi, p⟩
 obtain ⟨q, hz⟩ := hl i ys H hi p
 refine ⟨hz, ?_⟩
 by_cases hlt : i < kvs.length
 · refine .inr ⟨⟨hlt, q⟩, fun x H' y => ?_⟩
   obtain ⟨e, k, hk⟩ := y
   subst e
   exact hs i k x ys _ (fun ys' H3 => ∃ m', m' < kvs.length - i ∧ m' = kvs.length - (i + 1) ∧ i + 1 ≤ kvs.length ∧ Pv (i + 1) ys' H3) hk p fun ys' H3 p3 => ⟨_, by omega, rfl, hlt, p3⟩
 · have e : i = kvs.length := by omega
   subst e
   exact .inl ⟨⟨Nat.le_refl _, q⟩, hd ys H p⟩
theorem Sk {H : Hp} {x y : Addr} {o u : HO} (h : x ≠ y) : upd (upd H x o) y u = upd (upd H y u) x o := by
 funext z
 unfold upd
 by_cases h1 : z = y
 · have h2 : ¬ z = x := fun e => h (e.symm.trans h1)
   simp [h1, h2, h, Ne.symm h]
 · by_cases h2 : z = x <;> simp [h1, h2, h]
theorem upd_self {H : Hp} {x : Addr} {o : HO} (h : H x = some o) : upd H x o = H := by
 funext z
 unfold upd
 by_cases h1 : z = x
 · rw [if_pos h1, h1, h]
 · rw [if_neg h1]
theorem thaw1 {H : Hp} {x : Addr} {o u : HO} (h : H x = some o) : upd (upd H x u) x o = H := by rw [upd_upd, upd_self h]
theorem slot_cut {a b t : Int} (ha : 0 < a) (hb : 0 < b) : t / a = t / (a * b) * b + t % (a * b) / a := by
 have h := Int.mul_ediv_add_emod t (a * b)
 have e : t / a = (a * (t / (a * b) * b) + t % (a * b)) / a := by
   congr 1
   rw [← h]
   have : a * b * (t / (a * b)) = a * (t / (a * b) * b) := by
     rw [Int.mul_assoc, Int.mul_comm b]
   rw [h, ← this]
   exact h.symm
 rw [e, Int.add_comm, Int.add_mul_ediv_left _ _ (Int.ne_of_gt ha), Int.add_comm]
theorem slot_lt {a b t : Int} (ha : 0 < a) (hb : 0 < b) : 0 ≤ t % (a * b) / a ∧ t % (a * b) / a < b := by
 have h1 := Int.emod_nonneg t (Int.ne_of_gt (Int.mul_pos ha hb))
 have h2 := Int.emod_lt_of_pos t (Int.mul_pos ha hb)
 exact ⟨Int.ediv_nonneg h1 (Int.le_of_lt ha), Int.ediv_lt_of_lt_mul ha (by rw [Int.mul_comm b a]; exact h2)⟩
theorem place_some {S now t : Int} {n : Nat} {lvl slt : Int} : ZT S now t 0 (ZC S n) = some (lvl, slt) ↔ lv S n now t < n ∧ (lv S n now t : Int) = lvl ∧ t % S ^ (lv S n now t + 1) / S ^ lv S n now t = slt := by
 rw [Ug]
 by_cases h : lv S n now t < n
 · rw [if_pos h]
   constructor
   · intro e
     cases e
     exact ⟨h, rfl, rfl⟩
   · rintro ⟨_, e1, e2⟩
     rw [e1, e2]
 · rw [if_neg h]
   constructor
   · intro e; cases e
   · intro e; exact absurd e.1 h
theorem Uh {S now t : Int} {n : Nat} {lvl slt : Int} (hS : 0 < S) (h : ZT S now t 0 (ZC S n) = some (lvl, slt)) : (0 ≤ lvl ∧ lvl < n) ∧ 0 ≤ slt ∧ slt < S := by
 obtain ⟨h1, h2, h3⟩ := place_some.mp h
 have hp := Rk.pow_pos hS (lv S n now t)
 rw [Int.pow_succ] at h3
 have := slot_lt (t := t) hp hS
 rw [h3] at this
 exact ⟨⟨by omega, by omega⟩, this⟩
theorem SA {S now t : Int} {n i : Nat} {slt : Int} (hS : 0 < S) (hi : i < n) : ZT S now t 0 (ZC S n) = some ((i : Int), slt) ↔ lv S n now t = i ∧ t / S ^ i = now / (S ^ i * S) * S + slt := by
 rw [place_some]
 have hp := Rk.pow_pos hS i
 constructor
 · rintro ⟨h1, h2, h3⟩
   have e : lv S n now t = i := by omega
   rw [e] at h3
   have q := lv_eq (S := S) (now := now) (due := t) h1
   rw [e] at q
   rw [Int.pow_succ] at h3 q
   refine ⟨e, ?_⟩
   rw [slot_cut hp hS, h3, q]
 · rintro ⟨e, h⟩
   have h1 : lv S n now t < n := by omega
   have q := lv_eq (S := S) (now := now) (due := t) h1
   rw [e] at q
   refine ⟨h1, by omega, ?_⟩
   rw [e, Int.pow_succ]
   rw [Int.pow_succ] at q
   rw [slot_cut hp hS, q] at h
   omega
def spNumbersAt (c : Cl) : Sp := fun vs H Q _ => ∃ (A : Adr) (sl : Sl) (H0 : Hp) (B : BkS) (S : Int) (n : Nat) (now lvl slt : Int) (f : Int → Option Int), vs = [.ref (A.ad .rack), .int now, .int lvl, .int slt] ∧ Bk c A sl H0 H B ∧ Geo S n B ∧ RackOK S n now B.rows f ∧
 ∀ (H' : Hp) (l : Addr) (out : List Int), H0 l = none → Bk c A sl (upd H0 l (.lst (out.map V.int))) H' B → out.Pairwise (· < ·) → (∀ x, x ∈ out ↔ ∃ t, f x = some t ∧ ZT S now t 0 (ZC S n) = some (lvl, slt)) → Q (.ref l) H'
theorem sc_Rack_numbers_at : FnScope ["self", "now", "level", "slot", "slots", "row"] ["self", "now", "level", "slot"] (Zd Yf) := Zw
theorem UT (T : Txt K mg a) : FnOk P w K mg base (CXe P w) 2 a.f_Rack_numbers_at a.fd_Rack_numbers_at ["self", "now", "level", "slot"] (spNumbersAt (clOf a)) := by
 have G_Row_numbers_in := Tf (P := P) (w := w) (base := base) T
 refine T.F_Rack_numbers_at.okN sc_Rack_numbers_at (fun vs H Q E h => ?_) (fun cdv A' outer s H vs Q E hr h => ?_)
 · obtain ⟨A, sl, H0, B, S, n, now, lvl, slt, f, rfl, _⟩ := h
   rfl
 · obtain ⟨A, sl, H0, B, S, n, now, lvl, slt, f, rfl, b, G, R, k⟩ := h
   have hS := R.pS
   have eS : B.slots = S := G.slots
   have eL : B.spans.length = n := by rw [G.spans]; simp [ZC]
   refine ⟨_, Ya, ?_⟩
   refine Zl (Zz (i := 4) sc_Rack_numbers_at.nd rfl (Or.inl rfl) (Zu (Zu (pv 0) rfl) rfl)) ?_
   refine ⟨_, rfl, _, _, _, _, _, rfl, b.rack, T.cl_Rack, T.n_Rack_wheels, rfl, _, _, _, _, _, rfl, b.wheels, T.cl_Wheels, T.n_Wheels_slots, rfl, ?_⟩
   have nope : ¬ ((0 ≤ lvl ∧ lvl < n) ∧ 0 ≤ slt ∧ slt < S) → ∀ l, H l = none → Q (.ref l) (upd H l (.lst [])) := fun hb l hl => by
     refine k _ l [] (b.same.free hl) (b.out (.inl hl)) List.Pairwise.nil fun x => ⟨fun h => by simp at h, fun ⟨t, _, h⟩ => absurd (Uh hS h) hb⟩
   refine Zl (ZI (Ue (Zo Um (pv 2) Zf (Zv _)) (Ue (Zo op_ge (pv 2) (ZL XE (by rfl) T.b_len boot_len (Za (Zu (Zu (pv 0) rfl) rfl) Ze)) (Zv _)) (Ue (Zo Um (pv 3) Zf (Zv _)) (VO (Zo op_ge (pv 3) (pv 4) (Zv _)))))).pt (Zg (Zq (Yr Ze))) Zy) ?_
   refine ⟨_, rfl, _, _, rfl, rfl, _, rfl, ite2 (fun c => iteT ⟨by decide, nope (fun h => ?_)⟩) (fun c1 => ?_)⟩
   · have := of_decide_eq_true c; omega
   refine ⟨_, rfl, _, rfl, _, _, _, _, _, rfl, b.rack, T.cl_Rack, T.n_Rack_wheels, rfl, _, _, _, _, _, rfl, b.wheels, T.cl_Wheels, T.n_Wheels_spans, rfl, _, _, rfl, .inr (SqT.of b.spans), _, _, rfl, rfl, _, rfl, ite2 (fun c => iteT ⟨by decide, nope (fun h => ?_)⟩) (fun c2 => ?_)⟩
   · have c' := of_decide_eq_true c
     rw [List.length_map, eL] at c'
     omega
   refine ⟨_, rfl, _, _, rfl, rfl, _, rfl, ite2 (fun c => iteT ⟨by decide, nope (fun h => ?_)⟩) (fun c3 => ?_)⟩
   · have := of_decide_eq_true c; omega
   refine ⟨_, rfl, _, rfl, _, _, rfl, rfl, _, rfl, ite2 (fun c => ⟨by decide, nope (fun h => ?_)⟩) (fun c4 => ?_)⟩
   · have c' := of_decide_eq_true c
     rw [eS] at c'
     omega
   have h1 : 0 ≤ lvl := Int.not_lt.mp fun z => c1 (decide_eq_true z)
   have h2 : lvl < n := Int.not_le.mp fun z => c2 (decide_eq_true (by rw [List.length_map, eL]; exact z))
   obtain ⟨i, rfl⟩ : ∃ i : Nat, lvl = (i : Int) := ⟨lvl.toNat, by omega⟩
   have hin : i < n := by omega
   obtain ⟨r, hi⟩ := R.at (i := i) (by omega)
   have hrl : i < B.rows.length := (List.getElem?_eq_some_iff.mp hi).1
   have er : r.span = S ^ i := R.span i r hi
   have hp := Rk.pow_pos hS i
   have hp7 := G.pow (i := i) (by have := G.n6; omega)
   have hS64 := G.hi
   refine Zl (Zz (i := 5) sc_Rack_numbers_at.nd rfl (Or.inl rfl) (ZD Yo (Zu (pv 0) rfl) (pv 2) (fun _ _ => rfl))) ?_
   refine ⟨_, rfl, _, _, _, _, _, rfl, b.rack, T.cl_Rack, T.n_Rack_rows, rfl, _, rfl, _, _, _, _, rfl, rfl, SqL.of b.rows, Qh b hrl, ?_⟩
   refine Yh (Zq (ZU (pv 5) T.cl_Row T.m_Row_numbers_in G_Row_numbers_in (hr.mono (by decide)) T.B_Row_numbers_in .nil ZE (Za (Zp Yg (Zp Xj (Zp ZJ (pv 1) (Zp Xj (Zu (pv 5) rfl) (pv 4))) (pv 4)) (pv 3)) Ze))) ?_
   have hm : 0 < r.span * B.slots ∧ r.span * B.slots < 2 ^ 200 := by
     rw [er, eS]
     refine ⟨Int.mul_pos hp hS, ?_⟩
     have : S ^ i * S ≤ 64 ^ 7 * 64 := Int.mul_le_mul hp7.2 hS64 (by omega) (by decide)
     exact Int.lt_of_le_of_lt this (by decide)
   refine ⟨_, rfl, _, _, _, rfl, b.row hi, rfl, _, rfl, _, rfl, _, _, _, _, _, rfl, b.row hi, T.cl_Row, T.n_Row_span, rfl, _, rfl, _, _, rfl, rfl, .inr ⟨by rw [eS]; omega, by rw [eS]; exact Int.lt_of_le_of_lt hS64 (by decide)⟩, _, _, rfl, rfl, hm, _, rfl, _, _, rfl, rfl, .inr ⟨by rw [eS]; omega, by rw [eS]; exact Int.lt_of_le_of_lt hS64 (by decide)⟩, _, rfl, _, _, rfl, rfl, ?_⟩
   refine ⟨A, sl, H0, B, i, r, _, rfl, b, hi, (R.row i r hi).nd _, RackOK.sm R G.hi G.n6 hi, fun H' l out hl b' hs hmem => k H' l out hl b' hs fun x => ?_⟩
   rw [hmem x, (R.row i r hi).has x _]
   constructor
   · rintro ⟨t, ht, e⟩
     obtain ⟨h3, h4⟩ := fil_some.mp ht
     refine ⟨t, h3, (SA hS hin).mpr ⟨h4, ?_⟩⟩
     rw [er, eS] at e
     exact e
   · rintro ⟨t, h3, e⟩
     obtain ⟨h4, h5⟩ := (SA hS hin).mp e
     refine ⟨t, fil_some.mpr ⟨h3, h4⟩, ?_⟩
     rw [er, eS]
     exact h5
def YT (v : Vw) (t : Int) : Option (Int × Int) := ZT v.S v.now t 0 (ZC v.S v.n)
def spWhere (c : Cl) (NotThere : Addr) : Sp := fun vs H Q E => ∃ (H0 : Hp) (p : Addr) (v : Vw) (k : Int), vs = [.ref p, .int k] ∧ BookAt c H0 H p v ∧ Lg k ∧ (v.wait k = none → E (.ref NotThere) none H) ∧
 ∀ al, v.wait k = some al → (YT v al.tick = none → ∀ H', BookAt c H0 H' p v → Q .non H') ∧ ∀ lvl slt, YT v al.tick = some (lvl, slt) → ∀ H' tp, H0 tp = none → BookAt c (upd H0 tp (.tup [.int lvl, .int slt])) H' p v → Q (.ref tp) H'
theorem Rf : FnScope ["self", "number"] ["self", "number"] (Zd Xb) := Zw
theorem UN (T : Txt K mg a) : FnOk P w K mg base (CXe P w) 2 a.f_Book_where a.fd_Book_where ["self", "number"] (spWhere (clOf a) a.C_NotThere) := by
 have G_Wheels_place := Ua (P := P) (w := w) (base := base) T
 have G_Book_due := Uq (P := P) (w := w) (base := base) T
 refine T.F_Book_where.okE Rf (fun vs H Q E h => ?_) (fun cdv A' outer s H vs Q E hr h => ?_)
 · obtain ⟨H0, p, v, k, rfl, _⟩ := h
   rfl
 · obtain ⟨H0, p, v, k, rfl, hb, hl, k0, k1⟩ := h
   obtain ⟨A, sl, B, rfl, b, ok, e1, e2, e3, e4⟩ := id hb
   refine ⟨_, (Zg (Zq (ZU (Zu (Zu (pv 0) rfl) rfl) T.cl_Wheels T.m_Wheels_place G_Wheels_place (hr.mono (by decide)) T.B_Wheels_place .nil ZE (Za (Zu (pv 0) rfl) (Za (ZU (pv 0) T.cl_Book T.m_Book_due G_Book_due (hr.mono (by decide)) T.B_Book_due .nil Ul (Za (pv 1) Ze)) Ze))))), ?_⟩
   refine ⟨_, rfl, _, _, _, _, _, rfl, b.book, T.cl_Book, T.n_Book_rack, rfl, _, _, _, _, _, rfl, b.rack, T.cl_Rack, T.n_Rack_wheels, rfl, _, _, _, rfl, b.wheels, rfl, _, rfl, _, _, _, _, _, rfl, b.book, T.cl_Book, T.n_Book_now, rfl, _, rfl, _, _, _, rfl, b.book, rfl, _, rfl, H0, _, v, k, rfl, hb, hl, k0, fun al hal => ?_⟩
   have G := ok.geo
   have eS : B.slots = v.S := G.slots
   have es : B.spans = ZC v.S v.n := G.spans
   obtain ⟨q0, q1⟩ := k1 al hal
   refine ⟨_, _, _, B.slots, B.now, al.tick, B.spans, rfl, b.wheels, b.spans, (by rw [eS]; have := G.lo; omega), (by rw [eS]; exact Int.lt_of_le_of_lt G.hi (by decide)), (fun x hx => G.span hx), (by rw [es]; simp [ZC]; have := G.n6; omega), fun hn H' sH => ?_, fun lvl slt hs H' tp sH htp ht => ?_⟩
   · rw [eS, es, e1] at hn
     exact q0 hn H' (hb.up sH)
   · rw [eS, es, e1] at hs
     have b2 := hb.out (x := tp) (o := .tup [.int lvl, .int slt]) (.inl htp)
     refine q1 lvl slt hs H' tp (b.same.free htp) (b2.up fun y o e => ?_)
     by_cases z : y = tp
     · subst z
       rw [Zb] at e
       cases e
       exact ht
     · rw [Zc z] at e
       exact sH y o e
def spLying (c : Cl) : Sp := fun vs H Q _ => ∃ (H0 : Hp) (p : Addr) (v : Vw) (lvl slt : Int), vs = [.ref p, .int lvl, .int slt] ∧ BookAt c H0 H p v ∧ ∀ (H' : Hp) (l : Addr) (out : List Int), H0 l = none → BookAt c (upd H0 l (.lst (out.map V.int))) H' p v → out.Pairwise (· < ·) →
 (∀ x, x ∈ out ↔ ∃ al, v.wait x = some al ∧ YT v al.tick = some (lvl, slt)) → Q (.ref l) H'
theorem Rg : FnScope ["self", "level", "slot"] ["self", "level", "slot"] (Zd Xc) := Zw
theorem Ro (T : Txt K mg a) : FnOk P w K mg base (CXe P w) 3 a.f_Book_lying a.fd_Book_lying ["self", "level", "slot"] (spLying (clOf a)) := by
 have G_Rack_numbers_at := UT (P := P) (w := w) (base := base) T
 refine T.F_Book_lying.okN Rg (fun vs H Q E h => ?_) (fun cdv A' outer s H vs Q E hr h => ?_)
 · obtain ⟨H0, p, v, lvl, slt, rfl, _⟩ := h
   rfl
 · obtain ⟨H0, p, v, lvl, slt, rfl, ⟨A, sl, B, rfl, b, ok, e1, e2, e3, e4⟩, k⟩ := h
   refine ⟨_, (Zg (Zq (ZU (Zu (pv 0) rfl) T.cl_Rack T.m_Rack_numbers_at G_Rack_numbers_at (hr.mono (by decide)) T.B_Rack_numbers_at .nil ZE (Za (Zu (pv 0) rfl) (Za (pv 1) (Za (pv 2) Ze)))))), ?_⟩
   refine ⟨_, rfl, _, _, _, _, _, rfl, b.book, T.cl_Book, T.n_Book_rack, rfl, _, _, _, rfl, b.rack, rfl, _, rfl, _, _, _, _, _, rfl, b.book, T.cl_Book, T.n_Book_now, rfl, _, rfl, _, rfl, ?_⟩
   refine ⟨A, sl, H0, B, v.S, v.n, B.now, lvl, slt, get B.ticks, rfl, b, ok.geo, ok.rack, fun H' l out hl b' hs hm => ?_⟩
   refine k H' l out hl ⟨A, sl, B, rfl, b', ok, e1, e2, e3, e4⟩ hs fun x => ?_
   rw [hm x]
   unfold YT
   rw [← e1]
   constructor
   · rintro ⟨t, ht, e⟩
     obtain ⟨nm, sp, _, _, hw⟩ := ok.out.waits ht
     rw [e3] at hw
     exact ⟨_, hw, e⟩
   · rintro ⟨al, hal, e⟩
     rw [← e3] at hal
     exact ⟨al.tick, (alarm_some.mp hal).2.2, e⟩
theorem boot_VE : bootBuiltins "ValueError" = some (.type "ValueError") := by decide +kernel
def spCell (K : W.Frag) : Sp := fun vs H Q _ => ∃ (l : Addr) (ns : List Int) (k : Int), vs = [.ref l, .int k] ∧ SqL K H l (ns.map V.int) ∧ ∀ x : Int, Q (.int x) H
theorem Qd : FnScope ["_law_script", "_law_k"] ["_law_script", "_law_k"] (Zd Xu) := Zw
theorem Qw (T : Txt K mg a) : FnOk P w K mg base (CXe P w) 1 a.f__law_cell a.fd__law_cell ["_law_script", "_law_k"] (spCell K) := by
 refine T.F__law_cell.okN Qd (fun vs H Q E h => ?_) (fun cdv A' outer s H vs Q E hr h => ?_)
 · obtain ⟨l, ns, k, rfl, _⟩ := h
   rfl
 · obtain ⟨l, ns, k, rfl, hl, kk⟩ := h
   refine ⟨_, (Zh (ZI (Vo (pv 0) (fun _ => rfl)) (Zg (Zq (ZD Yo (pv 0) (Zp Yc (pv 1) (ZL XE rfl T.b_len boot_len (Za (pv 0) Ze))) (fun _ _ => rfl)))) Zy)
     (Zg (Zq Zf))), ?_⟩
   cases ns with
   | nil =>
     refine ⟨_, rfl, false, .inl ⟨_, hl, rfl⟩, iteF ?_⟩
     exact kk 0
   | cons n ns =>
     refine ⟨_, rfl, true, .inl ⟨_, hl, rfl⟩, iteT ?_⟩
     have hp : (0 : Int) < (((n :: ns).map V.int).length : Int) := by simp
     have h1 := Int.emod_nonneg k (Int.ne_of_gt hp)
     have h2 := Int.emod_lt_of_pos k hp
     obtain ⟨j, hj⟩ : ∃ j : Nat, k % (((n :: ns).map V.int).length : Int) = (j : Int) := ⟨(k % _).toNat, (Int.toNat_of_nonneg h1).symm⟩
     have hjl : j < (n :: ns).length := by rw [hj] at h2; simp at h2 ⊢; omega
     refine ⟨_, rfl, _, rfl, _, rfl, _, _, rfl, .inl hl, _, _, rfl, rfl, hp, _, _, _, .int (n :: ns)[j], rfl, rfl, hl, ?_, kk _⟩
     rw [hj]
     exact VA (by rw [List.getElem?_map]; simp [hjl])
def spMix (K : W.Frag) : Sp := fun vs H Q _ => ∃ (l : Addr) (ns : List Int) (k : Int), vs = [.ref l, .int k] ∧ SqL K H l (ns.map V.int) ∧ ∀ x : Int, 0 ≤ x → x < 4294967231 → Q (.int x) H
theorem sc__law_mix : FnScope ["_law_script", "_law_k", "_law_number"] ["_law_script", "_law_k"] (Zd XJ) := Zw
theorem Vx (T : Txt K mg a) : FnOk P w K mg base (CXe P w) 2 a.f__law_mix a.fd__law_mix ["_law_script", "_law_k"] (spMix K) := by
 have G__law_cell := Qw (P := P) (w := w) (base := base) T
 refine T.F__law_mix.okN sc__law_mix (fun vs H Q E h => ?_) (fun cdv A' outer s H vs Q E hr h => ?_)
 · obtain ⟨l, ns, k, rfl, _⟩ := h
   rfl
 · obtain ⟨l, ns, k, rfl, hl, kk⟩ := h
   refine ⟨_, (Zh (Zz (i := 2) sc__law_mix.nd rfl (Or.inl rfl) (Zp Yc (Zp Yg (ZA G__law_cell (hr.mono (by decide)) rfl T.f__law_cell T.kp__law_cell T.B__law_cell .nil ZE (Za (pv 0) (Za (pv 1) Ze))) (Zp Xj Zf (Zp Yg (pv 1) Zf))) Zf))
     (Zh (Zz (i := 2) sc__law_mix.nd rfl (Or.inl rfl) (Zp Yc (Zp Xj (pv 2) Zf) Zf))
     (Zg (Zq (Zp Yc (Zp Yg (Zp Xj (Zp ZJ (pv 2) Zf) Zf) (pv 2)) Zf))))), ?_⟩
   refine ⟨_, rfl, _, rfl, l, ns, k, rfl, hl, fun x => ?_⟩
   refine ⟨_, rfl, _, _, rfl, rfl, _, _, rfl, rfl, .inl ⟨by decide, by decide⟩, _, _, rfl, rfl, _, _, rfl, rfl, (by show (0 : Int) < 4294967291; decide), ?_⟩
   refine ⟨_, rfl, _, _, rfl, rfl, .inr ⟨by decide, by decide⟩, _, _, rfl, rfl, (by show (0 : Int) < 4294967279; decide), ?_⟩
   refine ⟨_, rfl, _, _, rfl, rfl, ⟨by decide, by decide⟩, _, _, rfl, rfl, .inr ⟨by decide, by decide⟩, _, rfl, _, _, rfl, rfl, _, _, rfl, rfl, (by show (0 : Int) < 4294967231; decide), ?_⟩
   exact kk _ (Int.emod_nonneg _ (by decide)) (Int.emod_lt_of_pos _ (by decide))
def DoneAt (q dw dr : Addr) (H0 H : Hp) (v : Vw) (d : Deed) (Q : VK) : Prop := ∀ (H0' H' : Hp) (r : Ret) (v' : Vw) (x : V), Fr [q, dw, dr] H0 H H0' H' → Wld H0' q dw dr v' → Does d v r v' → RetAt H0' r x → Q x H'
def spDo (f : Deed → List V → Prop) : Sp := fun vs H Q _ => ∃ (H0 : Hp) (q dw dr : Addr) (v : Vw) (j : Nat) (d : Deed) (us : List V), vs = .ref q :: us ∧ f d us ∧ Same H0 H ∧ Wld H0 q dw dr v ∧ LOk j v ∧ SY v d ∧ DoneAt q dw dr H0 H v d Q
def fSet : Deed → List V → Prop := fun d us => ∃ (due : Int) (step : Option Int) (name : Str), d = .set due step name ∧ us = [.str name, .int due, Vc step]
theorem sc__law_set : FnScope ["_law_world", "_law_name", "_law_due", "_law_step", "_law_number"] ["_law_world", "_law_name", "_law_due", "_law_step"] (Zd XH) := Zw
theorem ok__law_set (T : Txt K mg a) : FnOk P w K mg base (CXe P w) 1 a.f__law_set a.fd__law_set ["_law_world", "_law_name", "_law_due", "_law_step"] (spDo fSet) := by
 refine T.F__law_set.okN sc__law_set (fun vs H Q E h => ?_) (fun cdv A' outer s H vs Q E hr h => ?_)
 · obtain ⟨H0, q, dw, dr, v, j, d, us, rfl, ⟨due, step, name, rfl, rfl⟩, _⟩ := h
   rfl
 · obtain ⟨H0, q, dw, dr, v, j, d, us, rfl, ⟨due, step, name, rfl, rfl⟩, s0, ⟨tw, tr, w0⟩, lo, dk, kk⟩ := h
   have hu := YL hr
   have w1 := w0.up s0
   have lns := w0.lens lo
   refine ⟨_, (Zh (ZI (Ue (Zo RC (pv 2) (Zs hu (pv 0) Zk (fun _ _ => rfl)) (Zv _)) (VO (Tz (Zo Vv (pv 3) ZO (Zv _)) (UD (Zo Um (pv 3) Zf (Zv _)))).pt)).pt (Zg (Zq Zk)) Zy)
     (Zh (Zz (i := 4) sc__law_set.nd rfl (Or.inl rfl) (Zs hu (pv 0) Zk (fun _ _ => rfl)))
     (Zh (YI hu (pv 0) Zk (Zp Yg (pv 4) Zf) rfl)
     (Zh (YI hu (Zs hu (pv 0) Zk (fun _ _ => rfl)) (pv 4) (Yq (Za (pv 1) (Za (pv 2) (Za (pv 3) Ze)))) rfl)
     (Zg (Zq (pv 4))))))), ?_⟩
   have past : (due ≤ v.now ∨ ∃ s, step = some s ∧ s < 1) → Q (.str "past") H := fun c => kk H0 H _ v _ (.refl s0) ⟨tw, tr, w0⟩ (.setNo c) rfl
   refine ⟨_, rfl, _, rfl, _, _, rfl, w1.gNow, _, _, rfl, rfl, _, rfl, ite2 (fun c => iteT (past (.inl (of_decide_eq_true c)))) (fun c => ?_)⟩
   have hd : v.now < due := Int.not_le.mp fun z => c (decide_eq_true z)
   have s1 := ZV s0 q (.dK (wdV { v with next := v.next + 1 } dw dr))
   have w2 := w1.wTop (v' := { v with next := v.next + 1 }) rfl rfl
   have w02 := w0.wTop (v' := { v with next := v.next + 1 }) rfl rfl
   have fin : ∀ x, upd H q (.dK (wdV { v with next := v.next + 1 } dw dr)) x = none → (∀ s, step = some s → 1 ≤ s) → Q (.int v.next) (upd (upd (upd H q (.dK (wdV { v with next := v.next + 1 } dw dr))) x (.tup (alV ⟨name, due, step⟩))) dw (.dK (tabV (put tw v.next (x, ⟨name, due, step⟩))))) := fun x hx hs => by
     have w03 := w02.up (Same.upd (o := .tup (alV ⟨name, due, step⟩)) (s1.free hx))
     refine kk _ _ _ _ _ (((Fr.wr s0 w0.top (by simp)).trans (Fr.new s1 hx)).trans (Fr.wr (ZV s1 _ _) w03.wts (by simp))) ⟨_, _, w03.putW (k := v.next) Zb⟩ (.setOk hd hs) rfl
   cases step with
   | none =>
     refine ⟨_, rfl, rfl, _, rfl, iteF (iteF ?_)⟩
     refine ⟨_, rfl, _, _, rfl, w1.gMany, ?_⟩
     refine ⟨_, rfl, _, _, rfl, rfl, _, rfl, _, _, rfl, w1.pMany _, ?_⟩
     refine ⟨_, rfl, _, rfl, _, rfl, (by show 3 ≤ sizeLine; decide), fun x hx => ?_⟩
     have w3 := w2.up (Same.upd (o := .tup (alV ⟨name, due, none⟩)) hx)
     refine ⟨_, rfl, _, _, rfl, w3.gWaits, _, rfl, _, _, rfl, w3.pW _ x ⟨name, due, none⟩ (by omega), ?_⟩
     exact ⟨_, rfl, fin x hx fun s z => by cases z⟩
   | some sp =>
     refine ⟨_, rfl, rfl, _, rfl, iteT ?_⟩
     refine ⟨_, rfl, _, _, rfl, rfl, _, rfl, ite2 (fun c => past (.inr ⟨sp, rfl, of_decide_eq_true c⟩)) (fun c => ?_)⟩
     have hsp : 1 ≤ sp := by
       have : ¬ sp < 1 := fun z => c (decide_eq_true z)
       omega
     refine ⟨_, rfl, _, _, rfl, w1.gMany, ?_⟩
     refine ⟨_, rfl, _, _, rfl, rfl, _, rfl, _, _, rfl, w1.pMany _, ?_⟩
     refine ⟨_, rfl, _, rfl, _, rfl, (by show 3 ≤ sizeLine; decide), fun x hx => ?_⟩
     have w3 := w2.up (Same.upd (o := .tup (alV ⟨name, due, some sp⟩)) hx)
     refine ⟨_, rfl, _, _, rfl, w3.gWaits, _, rfl, _, _, rfl, w3.pW _ x ⟨name, due, some sp⟩ (by omega), ?_⟩
     exact ⟨_, rfl, fin x hx fun s z => by cases z; exact hsp⟩
def fMove : Deed → List V → Prop := fun d us => ∃ k due : Int, d = .move k due ∧ us = [.int k, .int due]
theorem sc__law_move : FnScope ["_law_world", "_law_number", "_law_due", "_law_one"] ["_law_world", "_law_number", "_law_due"] (Zd Xq) := Zw
theorem Qs (T : Txt K mg a) : FnOk P w K mg base (CXe P w) 1 a.f__law_move a.fd__law_move ["_law_world", "_law_number", "_law_due"] (spDo fMove) := by
 refine T.F__law_move.okN sc__law_move (fun vs H Q E h => ?_) (fun cdv A' outer s H vs Q E hr h => ?_)
 · obtain ⟨H0, q, dw, dr, v, j, d, us, rfl, ⟨k, due, rfl, rfl⟩, _⟩ := h
   rfl
 · obtain ⟨H0, q, dw, dr, v, j, d, us, rfl, ⟨k, due, rfl, rfl⟩, s0, ⟨tw, tr, w0⟩, lo, dk, kk⟩ := h
   have hu := YL hr
   have w1 := w0.up s0
   have lns := w0.lens lo
   refine ⟨_, (Zh (ZI (VQ (Vi hu (pv 1) (Zs hu (pv 0) Zk (fun _ _ => rfl)))) (Zg (Zq Zk)) Zy)
     (Zh (ZI (Zo RC (pv 2) (Zs hu (pv 0) Zk (fun _ _ => rfl)) (Zv _)) (Zg (Zq Zk)) Zy)
     (Zh (Zz (i := 3) sc__law_move.nd rfl (Or.inl rfl) (Zs hu (Zs hu (pv 0) Zk (fun _ _ => rfl)) (pv 1) (fun _ _ => rfl)))
     (Zh (YI hu (Zs hu (pv 0) Zk (fun _ _ => rfl)) (pv 1) (Yq (Za (ZD ZF (pv 3) Zf (fun _ _ => rfl)) (Za (pv 2) (Za (ZD ZF (pv 3) Zf (fun _ _ => rfl)) Ze)))) rfl)
     (Zg (Zq ZO)))))), ?_⟩
   cases e : v.wait k with
   | none =>
     have g := w1.gW k
     rw [w1.noW e] at g
     refine ⟨_, rfl, _, rfl, _, _, rfl, w1.gWaits, _, _, rfl, g, _, rfl, iteT ?_⟩
     exact kk H0 H _ v _ (.refl s0) ⟨tw, tr, w0⟩ (.moveNo e) rfl
   | some al =>
     obtain ⟨x, hx, hxt⟩ := w1.getW e
     have g := w1.gW k
     rw [hx] at g
     replace g : DGet H dw (.int k) (some (.ref x)) := g
     refine ⟨_, rfl, _, rfl, _, _, rfl, w1.gWaits, _, _, rfl, g, _, rfl, iteF ?_⟩
     refine ⟨_, rfl, _, rfl, _, _, rfl, w1.gNow, _, _, rfl, rfl, _, rfl, ite2 (fun c => ?_) (fun c => ?_)⟩
     · exact kk H0 H _ v _ (.refl s0) ⟨tw, tr, w0⟩ (.moveNo2 e (of_decide_eq_true c)) rfl
     · have hd : v.now < due := Int.not_le.mp fun z => c (decide_eq_true z)
       refine ⟨_, rfl, _, _, rfl, w1.gWaits, _, rfl, _, _, rfl, g, ?_⟩
       refine ⟨_, rfl, _, _, _, _, rfl, rfl, SqT.of hxt, rfl, _, rfl, _, rfl, _, _, _, _, rfl, rfl, SqT.of hxt, rfl, (by show 3 ≤ sizeLine; decide), fun y hy => ?_⟩
       have w2 := w1.up (Same.upd (o := .tup (alV ⟨al.name, due, al.step⟩)) hy)
       have w02 := w0.up (Same.upd (o := .tup (alV ⟨al.name, due, al.step⟩)) (s0.free hy))
       refine ⟨_, rfl, _, _, rfl, w2.gWaits, _, rfl, _, _, rfl, w2.pW k y ⟨al.name, due, al.step⟩ (by omega), ?_⟩
       exact kk _ _ _ _ _ ((Fr.new s0 hy).trans (Fr.wr (ZV s0 _ _) w02.wts (by simp))) ⟨_, _, w02.putW (k := k) Zb⟩ (.moveOk e hd) rfl
def fBack : Deed → List V → Prop := fun d us => ∃ k due : Int, d = .back k due ∧ us = [.int k]
theorem sc__law_back : FnScope ["_law_world", "_law_number", "_law_word"] ["_law_world", "_law_number"] (Zd Xv) := Zw
theorem Qx (T : Txt K mg a) : FnOk P w K mg base (CXe P w) 1 a.f__law_back a.fd__law_back ["_law_world", "_law_number"] (spDo fBack) := by
 refine T.F__law_back.okN sc__law_back (fun vs H Q E h => ?_) (fun cdv A' outer s H vs Q E hr h => ?_)
 · obtain ⟨H0, q, dw, dr, v, j, d, us, rfl, ⟨k, due, rfl, rfl⟩, _⟩ := h
   rfl
 · obtain ⟨H0, q, dw, dr, v, j, d, us, rfl, ⟨k, due, rfl, rfl⟩, s0, ⟨tw, tr, w0⟩, lo, dk, kk⟩ := h
   have hu := YL hr
   refine ⟨_, (Zh (Vp PassesOwn.never rfl (pi_tup (Yq (Za Zk (Za Zk Ze)))) (Yk (i := 2) sc__law_back.nd rfl (Or.inl rfl)) (Zg (ZI (VQ (pc_din hu (pv 1) (Zs hu (pv 0) (pv 2) (fun _ _ => rfl)))) (Zg (Zq (ZD ZF (YK (Zs hu (pv 0) (pv 2) (fun _ _ => rfl)) (pv 1) ⟨rfl, rfl, rfl, rfl⟩) Zf (fun _ _ => rfl)))) Zy)))
     (Zg (Zq Zk))), ?_⟩
   refine ⟨(by show 2 ≤ sizeLine; decide), fun tq htq => ?_⟩
   have htv : upd H tq (.tup [.str "waits", .str "rests"]) tq = some (.tup [.str "waits", .str "rests"]) := Zb
   have w1 := (w0.up s0).up (Same.upd (o := .tup [.str "waits", .str "rests"]) htq)
   have w01 := w0.up (Same.upd (o := .tup [.str "waits", .str "rests"]) (s0.free htq))
   have s1 := ZV s0 tq (.tup [.str "waits", .str "rests"])
   have f1 : Fr [q, dw, dr] H0 H _ _ := Fr.new (o := .tup [.str "waits", .str "rests"]) s0 htq
   generalize upd H tq (.tup [.str "waits", .str "rests"]) = H1 at *
   generalize upd H0 tq (.tup [.str "waits", .str "rests"]) = H01 at *
   refine ⟨_, rfl, ⟨_, SqT.of htv⟩, ?_⟩
   refine for_tup (xs := [.str "waits", .str "rests"]) (fun i σ Hi => Hi = H1 ∧ (∃ x, σ = [some (.ref q), some (.int k), x]) ∧ (1 ≤ i → v.wait k = none) ∧ (2 ≤ i → v.rest k = none)) ⟨rfl, ⟨_, rfl⟩, (fun z => by omega), (fun z => by omega)⟩ (fun i σ Hi _ hh => by rw [hh.1]; exact SqT.of htv) ?_ ?_
   · rintro i x σ Hi hx ⟨rfl, ⟨y, rfl⟩, h1, h2⟩
     match i, hx with
     | 0, hx =>
       cases hx
       cases e : v.wait k with
       | none =>
         have g := w1.gW k
         rw [w1.noW e] at g
         refine ⟨_, rfl, _, rfl, _, rfl, _, _, rfl, w1.gWaits, _, _, rfl, g, _, rfl, iteF ?_⟩
         exact ⟨rfl, ⟨_, rfl⟩, (fun _ => by first | exact e | rfl), (fun z => by omega)⟩
       | some al =>
         obtain ⟨x, hx, hxt⟩ := w1.getW e
         have g := w1.gW k
         rw [hx] at g
         replace g : DGet Hi dw (.int k) (some (.ref x)) := g
         refine ⟨_, rfl, _, rfl, _, rfl, _, _, rfl, w1.gWaits, _, _, rfl, g, _, rfl, iteT ?_⟩
         have hxt2 : upd Hi dw (.dK (YF (tabV tw) (Sum.inl k))) x = some (.tup (alV al)) := by
           rw [Zc (fun z => by rw [z, w1.wts] at hxt; cases hxt)]
           exact hxt
         refine ⟨_, rfl, _, rfl, _, _, rfl, w1.gWaits, _, rfl, .inl ⟨_, .inl w1.wts⟩, _, rfl, _, Sum.inl k, .ref x, w1.wts, rfl, w1.vW hx, _, _, _, _, rfl, rfl, SqT.of hxt2, rfl, ?_⟩
         exact kk _ _ _ _ _ (f1.trans (Fr.wr s1 w01.wts (by simp))) ⟨_, _, w01.popW k⟩ (.backW e) rfl
     | 1, hx =>
       cases hx
       have e0 := h1 (Nat.le_refl _)
       cases e : v.rest k with
       | none =>
         have g := w1.gR k
         rw [w1.noR e] at g
         refine ⟨_, rfl, _, rfl, _, rfl, _, _, rfl, w1.gRests, _, _, rfl, g, _, rfl, iteF ?_⟩
         exact ⟨rfl, ⟨_, rfl⟩, (fun _ => e0), (fun _ => by first | exact e | rfl)⟩
       | some al =>
         obtain ⟨x, hx, hxt⟩ := w1.getR e
         have g := w1.gR k
         rw [hx] at g
         replace g : DGet Hi dr (.int k) (some (.ref x)) := g
         refine ⟨_, rfl, _, rfl, _, rfl, _, _, rfl, w1.gRests, _, _, rfl, g, _, rfl, iteT ?_⟩
         have hxt2 : upd Hi dr (.dK (YF (tabV tr) (Sum.inl k))) x = some (.tup (alV al)) := by
           rw [Zc (fun z => by rw [z, w1.rts] at hxt; cases hxt)]
           exact hxt
         refine ⟨_, rfl, _, rfl, _, _, rfl, w1.gRests, _, rfl, .inl ⟨_, .inl w1.rts⟩, _, rfl, _, Sum.inl k, .ref x, w1.rts, rfl, w1.vR hx, _, _, _, _, rfl, rfl, SqT.of hxt2, rfl, ?_⟩
         exact kk _ _ _ _ _ (f1.trans (Fr.wr s1 w01.rts (by simp))) ⟨_, _, w01.popR k⟩ (.backR e0 e) rfl
     | n + 2, hx => simp at hx
   · rintro σ Hi ⟨rfl, ⟨y, rfl⟩, h1, h2⟩
     exact kk _ _ _ v _ f1 ⟨tw, tr, w01⟩ (.backNo (h1 (by decide)) (h2 (by decide))) rfl
def fRest : Deed → List V → Prop := fun d us => ∃ k due : Int, d = .rest k due ∧ us = [.int k]
theorem sc__law_rest : FnScope ["_law_world", "_law_number", "_law_one"] ["_law_world", "_law_number"] (Zd Xn) := Zw
theorem Qp (T : Txt K mg a) : FnOk P w K mg base (CXe P w) 1 a.f__law_rest a.fd__law_rest ["_law_world", "_law_number"] (spDo fRest) := by
 refine T.F__law_rest.okN sc__law_rest (fun vs H Q E h => ?_) (fun cdv A' outer s H vs Q E hr h => ?_)
 · obtain ⟨H0, q, dw, dr, v, j, d, us, rfl, ⟨k, due, rfl, rfl⟩, _⟩ := h
   rfl
 · obtain ⟨H0, q, dw, dr, v, j, d, us, rfl, ⟨k, due, rfl, rfl⟩, s0, ⟨tw, tr, w0⟩, lo, dk, kk⟩ := h
   have hu := YL hr
   have w1 := w0.up s0
   have lns := w0.lens lo
   refine ⟨_, (Zh (ZI (VQ (Vi hu (pv 1) (Zs hu (pv 0) Zk (fun _ _ => rfl)))) (Zg (Zq Zk)) Zy)
     (Zh (Zz (i := 2) sc__law_rest.nd rfl (Or.inl rfl) (YK (Zs hu (pv 0) Zk (fun _ _ => rfl)) (pv 1) ⟨rfl, rfl, rfl, rfl⟩))
     (Zh (YI hu (Zs hu (pv 0) Zk (fun _ _ => rfl)) (pv 1) (Yq (Za (ZD ZF (pv 2) Zf (fun _ _ => rfl)) (Za (Zp XY (ZD ZF (pv 2) Zf (fun _ _ => rfl)) (Zs hu (pv 0) Zk (fun _ _ => rfl))) (Za (ZD ZF (pv 2) Zf (fun _ _ => rfl)) Ze)))) rfl)
     (Zg (Zq ZO))))), ?_⟩
   cases e : v.wait k with
   | none =>
     have g := w1.gW k
     rw [w1.noW e] at g
     refine ⟨_, rfl, _, rfl, _, _, rfl, w1.gWaits, _, _, rfl, g, _, rfl, iteT ?_⟩
     exact kk H0 H _ v _ (.refl s0) ⟨tw, tr, w0⟩ (.restNo e) rfl
   | some al =>
     obtain ⟨x, hx, hxt⟩ := w1.getW e
     have g := w1.gW k
     rw [hx] at g
     replace g : DGet H dw (.int k) (some (.ref x)) := g
     refine ⟨_, rfl, _, rfl, _, _, rfl, w1.gWaits, _, _, rfl, g, _, rfl, iteF ?_⟩
     refine ⟨_, rfl, _, _, rfl, w1.gWaits, _, rfl, .inl ⟨_, .inl w1.wts⟩, _, rfl, _, Sum.inl k, .ref x, w1.wts, rfl, w1.vW hx, ?_⟩
     have hxt2 : upd H dw (.dK (YF (tabV tw) (Sum.inl k))) x = some (.tup (alV al)) := by
       rw [Zc (fun z => by rw [z, w1.wts] at hxt; cases hxt)]
       exact hxt
     have w2 := w1.popW k
     have w02 := w0.popW k
     have s1 := ZV s0 dw (.dK (YF (tabV tw) (Sum.inl k)))
     refine ⟨_, rfl, _, _, _, _, rfl, rfl, SqT.of hxt2, rfl, _, rfl, _, _, _, _, rfl, rfl, SqT.of hxt2, rfl, _, rfl, _, _, rfl, w2.gNow, _, _, rfl, rfl, _, rfl, _, _, _, _, rfl, rfl, SqT.of hxt2, rfl, (by show 3 ≤ sizeLine; decide), fun y hy => ?_⟩
     have w3 := w2.up (Same.upd (o := .tup (alV ⟨al.name, al.tick - v.now, al.step⟩)) hy)
     have w03 := w02.up (Same.upd (o := .tup (alV ⟨al.name, al.tick - v.now, al.step⟩)) (s1.free hy))
     refine ⟨_, rfl, _, _, rfl, w3.gRests, _, rfl, _, _, rfl, w3.pR k y ⟨al.name, al.tick - v.now, al.step⟩ (by omega), ?_⟩
     exact kk _ _ _ _ _ (((Fr.wr s0 w0.wts (by simp)).trans (Fr.new s1 hy)).trans (Fr.wr (ZV s1 _ _) w03.rts (by simp))) ⟨_, _, w03.putR (k := k) Zb⟩ (.restOk e) rfl
def fOn : Deed → List V → Prop := fun d us => ∃ k due : Int, d = .on k due ∧ us = [.int k]
theorem sc__law_on : FnScope ["_law_world", "_law_number", "_law_one"] ["_law_world", "_law_number"] (Zd Vg) := Zw
theorem ok__law_on (T : Txt K mg a) : FnOk P w K mg base (CXe P w) 1 a.f__law_on a.fd__law_on ["_law_world", "_law_number"] (spDo fOn) := by
 refine T.F__law_on.okN sc__law_on (fun vs H Q E h => ?_) (fun cdv A' outer s H vs Q E hr h => ?_)
 · obtain ⟨H0, q, dw, dr, v, j, d, us, rfl, ⟨k, due, rfl, rfl⟩, _⟩ := h
   rfl
 · obtain ⟨H0, q, dw, dr, v, j, d, us, rfl, ⟨k, due, rfl, rfl⟩, s0, ⟨tw, tr, w0⟩, lo, dk, kk⟩ := h
   have hu := YL hr
   have w1 := w0.up s0
   have lns := w0.lens lo
   refine ⟨_, (Zh (ZI (VQ (Vi hu (pv 1) (Zs hu (pv 0) Zk (fun _ _ => rfl)))) (Zg (Zq Zk)) Zy)
     (Zh (Zz (i := 2) sc__law_on.nd rfl (Or.inl rfl) (YK (Zs hu (pv 0) Zk (fun _ _ => rfl)) (pv 1) ⟨rfl, rfl, rfl, rfl⟩))
     (Zh (YI hu (Zs hu (pv 0) Zk (fun _ _ => rfl)) (pv 1) (Yq (Za (ZD ZF (pv 2) Zf (fun _ _ => rfl)) (Za (Zp Yg (ZD ZF (pv 2) Zf (fun _ _ => rfl)) (Zs hu (pv 0) Zk (fun _ _ => rfl))) (Za (ZD ZF (pv 2) Zf (fun _ _ => rfl)) Ze)))) rfl)
     (Zg (Zq ZO))))), ?_⟩
   cases e : v.rest k with
   | none =>
     have g := w1.gR k
     rw [w1.noR e] at g
     refine ⟨_, rfl, _, rfl, _, _, rfl, w1.gRests, _, _, rfl, g, _, rfl, iteT ?_⟩
     exact kk H0 H _ v _ (.refl s0) ⟨tw, tr, w0⟩ (.onNo e) rfl
   | some al =>
     obtain ⟨x, hx, hxt⟩ := w1.getR e
     have g := w1.gR k
     rw [hx] at g
     replace g : DGet H dr (.int k) (some (.ref x)) := g
     refine ⟨_, rfl, _, rfl, _, _, rfl, w1.gRests, _, _, rfl, g, _, rfl, iteF ?_⟩
     refine ⟨_, rfl, _, _, rfl, w1.gRests, _, rfl, .inl ⟨_, .inl w1.rts⟩, _, rfl, _, Sum.inl k, .ref x, w1.rts, rfl, w1.vR hx, ?_⟩
     have hxt2 : upd H dr (.dK (YF (tabV tr) (Sum.inl k))) x = some (.tup (alV al)) := by
       rw [Zc (fun z => by rw [z, w1.rts] at hxt; cases hxt)]
       exact hxt
     have w2 := w1.popR k
     have w02 := w0.popR k
     have s1 := ZV s0 dr (.dK (YF (tabV tr) (Sum.inl k)))
     refine ⟨_, rfl, _, _, _, _, rfl, rfl, SqT.of hxt2, rfl, _, rfl, _, _, _, _, rfl, rfl, SqT.of hxt2, rfl, _, rfl, _, _, rfl, w2.gNow, _, _, rfl, rfl, _, rfl, _, _, _, _, rfl, rfl, SqT.of hxt2, rfl, (by show 3 ≤ sizeLine; decide), fun y hy => ?_⟩
     have w3 := w2.up (Same.upd (o := .tup (alV ⟨al.name, al.tick + v.now, al.step⟩)) hy)
     have w03 := w02.up (Same.upd (o := .tup (alV ⟨al.name, al.tick + v.now, al.step⟩)) (s1.free hy))
     refine ⟨_, rfl, _, _, rfl, w3.gWaits, _, rfl, _, _, rfl, w3.pW k y ⟨al.name, al.tick + v.now, al.step⟩ (by omega), ?_⟩
     have dd : Does (.on k due) v .non { v with rest := fput v.rest k none, wait := fput v.wait k (some ⟨al.name, al.tick + v.now, al.step⟩) } := by
       rw [Int.add_comm al.tick v.now]
       exact .onOk e
     exact kk _ _ _ _ _ (((Fr.wr s0 w0.rts (by simp)).trans (Fr.new s1 hy)).trans (Fr.wr (ZV s1 _ _) w03.wts (by simp))) ⟨_, _, w03.putW (k := k) Zb⟩ dd rfl
def SoonAt (H : Hp) (l : Addr) (tw : TabA) : Prop := ∃ rs : List (Addr × Int × Int), H l = some (.lst (rs.map fun r => V.ref r.1)) ∧ (∀ r ∈ rs, H r.1 = some (.tup [.int r.2.1, .int r.2.2])) ∧ rs.map (·.2) = tw.map fun p => (p.2.2.tick, p.1)
theorem Tq {te : TE} {σ : St} {q dw dr : Addr} {tw tr : TabA} {v : Vw} {H0 H : Hp} {o : Obj} {Q : VK} (s0 : Same H0 H) (w0 : WAt H0 q dw dr tw tr v) (hlen : tw.length ≤ 1000) (hσ : blk [none, some 0] σ = [none, some (.ref q)])
   (hte : ∀ n x a Hi (Q' : VK), DGet Hi q (.str "waits") (some (.ref dw)) → DGet Hi dw (.int n) (some (.ref x)) → Hi x = some (.tup (alV a)) → (∀ p, Hi p = none → Q' (.ref p) (upd Hi p (.tup [.int a.tick, .int n]))) → te [some (.int n), some (.ref q)] Hi Q')
   (hd : ∀ ls H0' H', Fr [] H0 H H0' H' → SoonAt H0' ls tw → Q (.ref ls) (upd H' dw (.frz o (.dK (tabV tw))))) :
   UJ (Itd dw o (tabV tw)) [none, some 0] 0 (fun _ H Q => Q true H) te σ (upd H dw (.frz o (.dK (tabV tw)))) Q := by
 refine RM (fun i ys Hi => ∃ H0i Hi' rs, Hi = upd Hi' dw (.frz o (.dK (tabV tw))) ∧ Fr [] H0 H H0i Hi' ∧ (rs : List (Addr × Int × Int)).map (·.2) = (tw.take i).map (fun p => (p.2.2.tick, p.1)) ∧ ys = rs.map (fun r => V.ref r.1) ∧ ∀ r ∈ rs, H0i r.1 = some (.tup [.int r.2.1, .int r.2.2])) ⟨H0, H, [], rfl, .refl s0, rfl, rfl, fun r hr => by cases hr⟩ ?_ ?_ ?_
 · rintro i ys Hi hi ⟨H0i, Hi', rs, rfl, f, er, rfl, ht⟩
   refine ⟨Zb, ?_⟩
   have : rs.length = (tw.take i).length := by
     have := congrArg List.length er
     simpa using this
   rw [List.length_map, this, List.length_take]
   have : (1001 : Nat) ≤ sizeLine := by decide
   omega
 · rintro i k y ys Hi N hk ⟨H0i, Hi', rs, rfl, f, er, rfl, ht⟩ kq
   have w1 := (w0.up f.grow).up f.same
   obtain ⟨n, x, al, hi, rfl, rfl, hg, hw, hx⟩ := w1.atW hk
   refine iteT ?_
   rw [hσ]
   have hq : upd Hi' dw (.frz o (.dK (tabV tw))) q = some (.dK (wdV v dw dr)) := by rw [Zc w1.n1]; exact w1.top
   refine hte n x al _ _ (wd_waits (v := v) (dw := dw) (dr := dr) ▸ DGet.k (k := Sum.inr "waits") hq) (.inl ⟨tabV tw, Sum.inl n, .inr ⟨o, Zb⟩, rfl, (w1.vW hg).symm⟩) (by rw [Zc (fun z => by rw [z, w1.wts] at hx; cases hx)]; exact hx) fun p hp => ?_
   have hpd : dw ≠ p := fun z => by rw [← z, Zb] at hp; cases hp
   have hp' : Hi' p = none := by rw [Zc hpd.symm] at hp; exact hp
   refine kq _ _ ⟨upd H0i p (.tup [.int al.tick, .int n]), upd Hi' p (.tup [.int al.tick, .int n]), rs ++ [(p, al.tick, n)], Sk hpd, f.trans (Fr.new f.same hp'), ?_, by simp, fun r hr => ?_⟩
   · rw [List.take_add_one, hi, List.map_append, List.map_append, er]
     rfl
   · rcases List.mem_append.mp hr with hr | hr
     · have := ht r hr
       rw [Zc (Zn this (f.same.free hp'))]
       exact this
     · have e : r = (p, al.tick, n) := by simpa using hr
       subst e
       exact Zb
 · rintro ys Hi ⟨H0i, Hi', rs, rfl, f, er, rfl, ht⟩ acc hacc
   have hpd : dw ≠ acc := fun z => by rw [← z, Zb] at hacc; cases hacc
   have hp' : Hi' acc = none := by rw [Zc hpd.symm] at hacc; exact hacc
   rw [Sk hpd]
   refine hd acc _ _ (f.trans (Fr.new (o := .lst (rs.map fun r => V.ref r.1)) f.same hp')) ⟨rs, Zb, fun r hr => ?_, ?_⟩
   · have := ht r hr
     rw [Zc (Zn this (f.same.free hp'))]
     exact this
   · rw [er, SL, List.take_length]
theorem Fr.at {W : List Addr} {H0 H H1 H1' : Hp} (f : Fr W H0 H H1 H1') (s : Same H0 H) {x : Addr} {o : HO} (hx : H x = none) : Fr W H0 H (upd H1 x o) (upd H1' x o) :=
 ⟨ZV f.same x o, fun y u hy h => by rw [Zc (Zn h (s.free hx))]; exact f.keep y u hy h, fun y u hy h0 => by
   rw [Zc (Zn hy hx), Zc (Zn hy hx)]
   exact f.own y u hy h0⟩
theorem RingsAt.side {H : Hp} {l x : Addr} {rs : List (Int × Int × Str)} {o : HO} {kvs : List (Key × V)} (r : RingsAt H l rs) (hx : H x = some (.dK kvs)) : RingsAt (upd H x o) l rs := by
 obtain ⟨qs, e1, e2, e3⟩ := r
 have nt : ∀ {y : Addr} {u : HO}, H y = some u → (∀ kvs, u ≠ .dK kvs) → upd H x o y = some u := fun {y u} hy hn => by
   rw [Zc (fun z => by rw [z, hx] at hy; cases hy; exact hn _ rfl)]
   exact hy
 exact ⟨qs, e1, nt e2 (fun _ z => by cases z), fun q' hq => nt (e3 q' hq) fun _ z => by cases z⟩
theorem big1m {n : Nat} (h : n ≤ 1000000) : n < sizeLine := Nat.lt_of_le_of_lt h (by decide)
theorem Rw {H : Hp} {ls : Addr} {tw : TabA} {rs : List (Addr × Int × Int)} (nd : (keys tw).Nodup) (er : rs.map (·.2) = tw.map fun p => (p.2.2.tick, p.1)) {r : Addr × Int × Int} (hr : r ∈ rs) (hm : ∀ r' ∈ rs, leP r.2 r'.2) :
   ∃ x al, get tw r.2.2 = some (x, al) ∧ al.tick = r.2.1 ∧ ∀ m b, fnT tw m = some b → Ahead al.tick r.2.2 b.tick m := by
 have h1 : r.2 ∈ tw.map fun p => (p.2.2.tick, p.1) := by rw [← er]; exact List.mem_map.mpr ⟨r, hr, rfl⟩
 obtain ⟨p, hp, ep⟩ := List.mem_map.mp h1
 obtain ⟨n, x, al⟩ := p
 have e1 : al.tick = r.2.1 := congrArg (·.1) ep
 have e2 : n = r.2.2 := congrArg (·.2) ep
 refine ⟨x, al, by rw [← e2]; exact VW nd hp, e1, fun m b hb => ?_⟩
 obtain ⟨y, hy⟩ := SO hb
 have h2 : (b.tick, m) ∈ rs.map (·.2) := by rw [er]; exact List.mem_map.mpr ⟨_, XC hy, rfl⟩
 obtain ⟨r', hr', er'⟩ := List.mem_map.mp h2
 have := hm r' hr'
 rw [er'] at this
 unfold leP at this
 rw [e1]
 exact this
theorem soon_nil {tw : TabA} {rs : List (Addr × Int × Int)} (er : rs.map (·.2) = tw.map fun p => (p.2.2.tick, p.1)) (h : rs = []) : ∀ m, fnT tw m = none := by
 subst h
 cases tw with
 | nil => exact fun m => rfl
 | cons p t => cases er
def fPass : Deed → List V → Prop := fun d us => ∃ t : Int, d = .pass t ∧ us = [.int t]
theorem sc__law_pass : FnScope ["_law_world", "_law_ticks_here", "_law_goal", "_law_told", "_law_soon", "_law_due", "_law_number", "_law_name", "_law_step"] ["_law_world", "_law_ticks_here"] (Zd Xo) := Zw
structure Turns (q dw dr : Addr) (H0 H : Hp) (v : Vw) (goal : Int) (lt ls : Addr) (Hi H0i : Hp) (tw tr : TabA) (rs : List (Int × Int × Str)) : Prop where
 fr : Fr [q, dw, dr] H0 H H0i Hi
 wd : WAt H0i q dw dr tw tr { v with wait := fnT tw }
 told : RingsAt H0i lt rs
 new : H lt = none
 soon : SoonAt H0i ls tw
 steps : Steps goal v.wait rs (fnT tw)
abbrev RX (K : W.Frag) : TE := tTup (Rt (tOp (rIxT K) (tDGet (tDGet (tVar 1) (tC (.str "waits"))) (tVar 0)) (tC (.int 1))) (Rt (tVar 0) tNil))
theorem RW {K : W.Frag} {q dw : Addr} (n : Int) (x : Addr) (a : Al Str) (Hi : Hp) (Q' : VK) (h1 : DGet Hi q (.str "waits") (some (.ref dw))) (h2 : DGet Hi dw (.int n) (some (.ref x))) (h3 : Hi x = some (.tup (alV a))) (h4 : ∀ p, Hi p = none → Q' (.ref p) (upd Hi p (.tup [.int a.tick, .int n]))) : RX K [some (.int n), some (.ref q)] Hi Q' :=
 ⟨_, rfl, _, _, rfl, h1, _, rfl, _, _, rfl, h2, _, _, _, _, rfl, rfl, SqT.of h3, rfl, _, rfl, (by show 2 ≤ sizeLine; decide), h4⟩
set_option maxHeartbeats 1000000 in
theorem Qq (T : Txt K mg a) : FnOk P w K mg base (CXe P w) 2 a.f__law_pass a.fd__law_pass ["_law_world", "_law_ticks_here"] (spDo fPass) := by
 refine T.F__law_pass.okN sc__law_pass (fun vs H Q E h => ?_) (fun cdv A' outer s H vs Q E hr h => ?_)
 · obtain ⟨H0, q, dw, dr, v, j, d, us, rfl, ⟨t, rfl, rfl⟩, _⟩ := h
   rfl
 · obtain ⟨H0, q, dw, dr, v, j, d, us, rfl, ⟨t, rfl, rfl⟩, s0, ⟨tw, tr, w0⟩, lo, dk, kk⟩ := h
   have hu := YL hr
   have w1 := w0.up s0
   refine ⟨_, Ya, ?_⟩
   refine Zl (ZI (Zo Um (pv 1) Zf (Zv _)) (Zg (Zq Zk)) Zy) ?_
   refine ⟨_, rfl, _, _, rfl, rfl, _, rfl, ite2 (fun c => ?_) (fun c => ?_)⟩
   · exact kk H0 H _ v _ (.refl s0) ⟨tw, tr, w0⟩ (.passNo (of_decide_eq_true c)) rfl
   have ht : 0 ≤ t := Int.not_lt.mp fun z => c (decide_eq_true z)
   obtain ⟨_, _, hmu⟩ := dk
   have hmu := hmu ht
   refine Zl (Zz (i := 2) sc__law_pass.nd rfl (Or.inl rfl) (Zp Yg (Zs hu (pv 0) Zk (fun _ _ => rfl)) (pv 1))) ?_
   refine ⟨_, rfl, _, _, rfl, w1.gNow, _, rfl, _, _, rfl, rfl, ?_⟩
   refine Zl (Zz (i := 3) sc__law_pass.nd rfl (Or.inl rfl) (Yr Ze)) ?_
   refine ⟨by decide, fun lt hlt => ?_⟩
   have s1 := ZV s0 lt (.lst [])
   have w01 := w0.up (Same.upd (o := .lst []) (s0.free hlt))
   have w11 := w01.up s1
   have f1 : Fr [q, dw, dr] H0 H _ _ := Fr.new (o := .lst []) s0 hlt
   refine Zl (Qi (Uf (te := RX K) (NB := ["_law_number", "_law_world"]) (fv := [none, some 0]) (jx := 0) rfl (VM rfl rfl (by decide +kernel)) (Sb (Zs hu (pv 0) Zk (fun _ _ => rfl))) rfl rfl rfl (fun _ _ _ => Ui) (fun _ _ _ => (Yq (Za (ZD ZF (Zs hu (Zs hu (pv 1) Zk (fun _ _ => rfl)) (pv 0) (fun _ _ => rfl)) Zf (fun _ _ => rfl)) (Za (pv 0) Ze)))) sc__law_pass.nd (iy := 4) rfl (Or.inl rfl) rfl)) ?_
   refine ⟨_, rfl, _, _, rfl, w11.gWaits, _, _, rfl, w11.wts, fun o nf => ?_⟩
   refine Tq s1 w01 (by have := (w01.lens lo).1; omega) rfl RW fun ls H0' H' f2 sn => ?_
   refine ⟨dw, o, _, nf, Zb, ?_⟩
   have w02 := w01.up f2.grow
   rw [thaw1 (w02.up f2.same).wts]
   have lt1 : H0' lt = some (.lst []) := f2.grow _ _ Zb
   refine Zl (Sz PassesOwn.never (Tz (Vo (pv 4) (fun _ => rfl)) (UD (Zo RC (ZD ZF (ZL (RP rfl hu) (by rfl) T.b_min boot_min (Za (pv 4) Ze)) Zf (fun _ _ => rfl)) (pv 2) (Zv _)))).pt Ya) ?_
   have wT : WAt H0' q dw dr tw tr { v with wait := fnT tw } := by rw [w0.ew]; exact w02
   have st0 : Steps (v.now + t) v.wait [] (fnT tw) := by rw [w0.ew]; exact .nil
   have tn0 : Turns q dw dr H0 H v (v.now + t) lt ls H' H0' tw tr [] := ⟨f1.trans f2.wide, wT, ⟨[], rfl, lt1, fun q hq => by cases hq⟩, hlt, sn, st0⟩
   obtain ⟨mu, emu⟩ : ∃ mu : TabA → Nat, ∀ t', mu t' = muF (v.now + t) 63 (fnT t') := ⟨_, fun _ => rfl⟩
   refine ⟨fun m σ Hi => ∃ H0i twi rs ls x5 x6 x7 x8, σ = [some (.ref q), some (.int t), some (.int (v.now + t)), some (.ref lt), some (.ref ls), x5, x6, x7, x8] ∧ Turns q dw dr H0 H v (v.now + t) lt ls Hi H0i twi tr rs ∧ m = mu twi,
     ⟨_, H0', tw, [], ls, none, none, none, none, rfl, tn0, rfl⟩, ?_⟩
   rintro m σ Hi ⟨H0i, twi, rs, ls, x5, x6, x7, x8, rfl, g, rfl⟩
   have good := g.steps.good lo.good
   have wi := g.wd.up g.fr.same
   obtain ⟨prs, hls, hpt, er⟩ := g.soon
   have hls' := g.fr.same _ _ hls
   have fin : (∀ n b, fnT twi n = some b → v.now + t < b.tick) → Q (.ref lt) (upd Hi q (.dK (wdV { v with wait := fnT twi, now := v.now + t } dw dr))) := fun hb => by
     refine kk _ _ _ _ _ (g.fr.trans (Fr.wr g.fr.same g.wd.top (by simp))) ⟨_, _, g.wd.wTop (v' := { v with wait := fnT twi, now := v.now + t }) rfl rfl⟩ (.passOk ht (g.steps.stop hb)) ⟨lt, rfl, ?_⟩
     exact g.told.side g.wd.top
   by_cases hn : prs = []
   · have h0 := soon_nil er hn
     subst hn
     refine ⟨_, rfl, false, .inl ⟨_, SqL.of hls', rfl⟩, iteF (iteF ?_)⟩
     refine Zl (YI hu (pv 0) Zk (pv 2) rfl) ?_
     refine ⟨_, rfl, _, rfl, _, _, rfl, wi.pNow _, ?_⟩
     refine Yh (Zq (pv 3)) ?_
     exact ⟨_, rfl, fin fun n b e => by rw [h0 n] at e; cases e⟩
   · have hne : (prs.map fun r => V.ref r.1) ≠ [] := by simpa using hn
     refine ⟨_, rfl, true, .inl ⟨_, SqL.of hls', by cases prs with | nil => exact absurd rfl hn | cons y l => rfl⟩, iteT ?_⟩
     refine ⟨_, rfl, ls, prs, rfl, SqL.of hls', hn, (fun r hr => SqT.of (g.fr.same _ _ (hpt r hr))), fun r hr hmin => ?_⟩
     refine ⟨_, _, _, _, rfl, rfl, SqT.of (g.fr.same _ _ (hpt r hr)), rfl, _, rfl, _, _, rfl, rfl, _, rfl, ite2 (fun c => ?_) (fun c => ?_)⟩
     · have hc : r.2.1 ≤ v.now + t := of_decide_eq_true c
       refine ⟨fun σ' H' => ∃ H0i' twi' rs' ls' x5 x6 x7 x8, σ' = [some (.ref q), some (.int t), some (.int (v.now + t)), some (.ref lt), some (.ref ls'), x5, x6, x7, x8] ∧ Turns q dw dr H0 H v (v.now + t) lt ls' H' H0i' twi' tr rs' ∧ mu twi' < mu twi,
         fun σ' H' ⟨H0i', twi', rs', ls', x5, x6, x7, x8, e, g', h⟩ => ⟨_, h, H0i', twi', rs', ls', x5, x6, x7, x8, e, g', rfl⟩, ?_⟩
       refine Zl (ps_asg (ZL (RP rfl hu) (by rfl) T.b_min boot_min (Za (pv 4) Ze)) (Qj rfl (Xz (Yk (i := 5) sc__law_pass.nd rfl (Or.inl rfl)) (Xz (Yk (i := 6) sc__law_pass.nd rfl (Or.inl rfl)) Sc)))) ?_
       refine ⟨_, rfl, ls, prs, rfl, SqL.of hls', hn, (fun r hr => SqT.of (g.fr.same _ _ (hpt r hr))), fun p hp hpm => ?_⟩
       have hpc : p.2.1 ≤ v.now + t := by
         have := hpm r hr
         unfold leP at this
         omega
       obtain ⟨x, al, hx, hat, hfirst⟩ := Rw (H := H0i) (ls := ls) g.wd.ndw er hp hpm
       have nx : Next (v.now + t) (fnT twi) p.2.2 al := ⟨by show (get twi p.2.2).map (·.2) = _; rw [hx]; rfl, by omega, hfirst⟩
       refine ⟨_, _, rfl, SqT.of (g.fr.same _ _ (hpt p hp)), rfl, _, _, rfl, _, _, rfl, rfl, ?_⟩
       obtain ⟨pa, pt, k⟩ := p
       obtain ⟨nm, tk, sp⟩ := al
       have hat : tk = pt := hat
       subst hat
       have hx : get twi k = some (x, ⟨nm, tk, sp⟩) := hx
       have nx : Next (v.now + t) (fnT twi) k ⟨nm, tk, sp⟩ := nx
       have hxt : Hi x = some (.tup [.str nm, .int tk, Vc sp]) := wi.aw _ (XC hx)
       have gk := wi.gW k
       rw [hx] at gk
       replace gk : DGet Hi dw (.int k) (some (.ref x)) := gk
       change TSem _ (_ :: _) _ _ _
       refine Zl (ps_asg (Zs hu (Zs hu (pv 0) Zk (fun _ _ => rfl)) (pv 6) (fun _ _ => rfl)) (Qj rfl (Xz (Yk (i := 7) sc__law_pass.nd rfl (Or.inl rfl)) (Xz (Yk (i := 5) sc__law_pass.nd rfl (Or.inl rfl)) (Xz (Yk (i := 8) sc__law_pass.nd rfl (Or.inl rfl)) Sc))))) ?_
       refine ⟨_, rfl, _, _, rfl, wi.gWaits, _, rfl, _, _, rfl, gk, _, _, rfl, SqT.of hxt, rfl, _, _, rfl, _, _, rfl, _, _, rfl, rfl, ?_⟩
       obtain ⟨qs, eq, hql, hqt⟩ := g.told
       have hql' := g.fr.same _ _ hql
       have hlq : qs.length = rs.length := by rw [← eq, List.length_map]
       have hrl : rs.length ≤ 1000000 := by have := good.2; omega
       change TSem _ (_ :: _) _ _ _
       refine Zl (ZG (VH F.plainAttrs_list F.slot_list_append F.type_list_append Vj (pv 3) (Za (Yq (Za (pv 5) (Za (pv 6) (Za (pv 7) Ze)))) Ze))) ?_
       refine ⟨_, rfl, .inl ⟨rfl, _, SqL.of hql'⟩, _, rfl, _, rfl, _, rfl, (by show 3 ≤ sizeLine; decide), fun tp htp => ?_⟩
       have ntl : lt ≠ tp := fun z => by rw [← z, hql'] at htp; cases htp
       refine ⟨_, _, _, rfl, rfl, by rw [Zc ntl]; exact hql', (by rw [List.length_map]; exact big1m (by omega)), ?_⟩
       have fa : Fr [q, dw, dr] H0 H (upd (upd H0i tp (.tup (XU (tk, k, nm)))) lt (.lst ((qs.map fun q => V.ref q.1) ++ [.ref tp]))) (upd (upd Hi tp (.tup [.int tk, .int k, .str nm])) lt (.lst ((qs.map fun q => V.ref q.1) ++ [.ref tp]))) := (g.fr.trans (Fr.new (o := .tup (XU (tk, k, nm))) g.fr.same htp)).at s0 (x := lt) g.new
       have ra : RingsAt (upd (upd H0i tp (.tup (XU (tk, k, nm)))) lt (.lst ((qs.map fun q => V.ref q.1) ++ [.ref tp]))) lt (rs ++ [(tk, k, nm)]) := eq ▸ RingsAt.snoc (r := (tk, k, nm)) hql hqt (g.fr.same.free htp)
       have wa : WAt (upd (upd H0i tp (.tup (XU (tk, k, nm)))) lt (.lst ((qs.map fun q => V.ref q.1) ++ [.ref tp]))) q dw dr twi tr { v with wait := fnT twi } := by
         have w2 := g.wd.up (Same.upd (o := .tup (XU (tk, k, nm))) (g.fr.same.free htp))
         have hl2 : (upd H0i tp (.tup (XU (tk, k, nm)))) lt = some (.lst (qs.map fun q => V.ref q.1)) := by rw [Zc ntl]; exact hql
         have out : ∀ {y : Addr} {u : HO}, (upd H0i tp (.tup (XU (tk, k, nm)))) y = some u → (∀ xs, u ≠ .lst xs) → upd (upd H0i tp (.tup (XU (tk, k, nm)))) lt (.lst ((qs.map fun q => V.ref q.1) ++ [.ref tp])) y = some u := fun {y u} hy hn => by
           rw [Zc (fun z => by rw [z, hl2] at hy; cases hy; exact hn _ rfl)]
           exact hy
         exact ⟨out w2.top (fun _ z => by cases z), out w2.wts (fun _ z => by cases z), out w2.rts (fun _ z => by cases z), fun p hp => out (w2.aw p hp) (fun _ z => by cases z), fun p hp => out (w2.ar p hp) (fun _ z => by cases z), w2.n1, w2.n2, w2.n3, w2.ndw, w2.ndr, w2.ew, w2.er⟩
       generalize upd (upd H0i tp (.tup (XU (tk, k, nm)))) lt (.lst ((qs.map fun q => V.ref q.1) ++ [.ref tp])) = H0a at *
       generalize upd (upd Hi tp (.tup [.int tk, .int k, .str nm])) lt (.lst ((qs.map fun q => V.ref q.1) ++ [.ref tp])) = Ha at *
       have sa := fa.same
       have wha := wa.up sa
       refine Zl (ZG (YK (Zs hu (pv 0) Zk (fun _ _ => rfl)) (pv 6) ⟨rfl, rfl, rfl, rfl⟩)) ?_
       refine ⟨_, rfl, _, _, rfl, wha.gWaits, _, rfl, .inl ⟨_, .inl wha.wts⟩, _, rfl, _, Sum.inl k, .ref x, wha.wts, rfl, wha.vW hx, ?_⟩
       have wb := wa.popW k
       have fb := fa.trans (Fr.wr (o := .dK (YF (tabV twi) (Sum.inl k))) sa wa.wts (by simp))
       have rb := ra.side (o := .dK (YF (tabV twi) (Sum.inl k))) wa.wts
       have whb := wha.popW k
       have sb := fb.same
       have mu1 := muF_ring good.1 nx
       have ldr : (drop twi k).length ≤ 63 := VT (ZN g.wd.ndw k) fun n hn => by
         obtain ⟨y, ey⟩ := Option.isSome_iff_exists.mp hn
         rw [Zx] at ey
         by_cases hk : n = k
         · rw [if_pos hk] at ey; cases ey
         · rw [if_neg hk] at ey
           have := (good.1 n y.2 (by show (get twi n).map (·.2) = _; rw [ey]; rfl)).1
           omega
       cases sp with
       | none =>
         refine Zl (ZI (Zo Vv (pv 8) ZO (Zv _)) (Zg (YI hu (Zs hu (pv 0) Zk (fun _ _ => rfl)) (pv 6) (Yq (Za (pv 7) (Za (Zp Yg (pv 5) (pv 8)) (Za (pv 8) Ze)))) rfl)) Zy) ?_
         refine ⟨_, rfl, rfl, _, rfl, iteF ?_⟩
         have ef : fnT (drop twi k) = fput (fnT twi) k (after (⟨nm, tk, none⟩ : Al Str)) := VL _ _
         refine Yh (Qi (Uf (te := RX K) (NB := ["_law_number", "_law_world"]) (fv := [none, some 0]) (jx := 0) rfl (VM rfl rfl (by decide +kernel)) (Sb (Zs hu (pv 0) Zk (fun _ _ => rfl))) rfl rfl rfl (fun _ _ _ => Ui) (fun _ _ _ => (Yq (Za (ZD ZF (Zs hu (Zs hu (pv 1) Zk (fun _ _ => rfl)) (pv 0) (fun _ _ => rfl)) Zf (fun _ _ => rfl)) (Za (pv 0) Ze)))) sc__law_pass.nd (iy := 4) rfl (Or.inl rfl) rfl)) ?_
         refine ⟨_, rfl, _, _, rfl, whb.gWaits, _, _, rfl, whb.wts, fun o nf => ?_⟩
         refine Tq sb wb (by omega) rfl RW fun ls' H0' H' f2 sn => ?_
         refine ⟨dw, o, _, nf, Zb, ?_⟩
         have wc := wb.up f2.grow
         rw [thaw1 (wc.up f2.same).wts]
         refine ⟨H0', drop twi k, rs ++ [(tk, k, nm)], ls', _, _, _, _, rfl, ⟨fb.trans f2.wide, by rw [VL]; exact wc, rb.up f2.grow, hlt, sn, ?_⟩, ?_⟩
         · rw [ef]
           exact .snoc g.steps nx
         · rw [emu, emu, ef]
           omega
       | some st =>
         refine Zl (ZI (Zo Vv (pv 8) ZO (Zv _)) (Zg (YI hu (Zs hu (pv 0) Zk (fun _ _ => rfl)) (pv 6) (Yq (Za (pv 7) (Za (Zp Yg (pv 5) (pv 8)) (Za (pv 8) Ze)))) rfl)) Zy) ?_
         refine ⟨_, rfl, rfl, _, rfl, iteT ?_⟩
         refine ⟨_, rfl, _, rfl, _, rfl, _, _, rfl, rfl, _, rfl, (by show 3 ≤ sizeLine; decide), fun y hy => ?_⟩
         have wy := whb.up (Same.upd (o := .tup (alV ⟨nm, tk + st, some st⟩)) hy)
         have w0y := wb.up (Same.upd (o := .tup (alV ⟨nm, tk + st, some st⟩)) (sb.free hy))
         refine ⟨_, rfl, _, _, rfl, wy.gWaits, _, rfl, _, _, rfl, wy.pW k y ⟨nm, tk + st, some st⟩ (by omega), ?_⟩
         have wc := w0y.putW (k := k) (x := y) (a := ⟨nm, tk + st, some st⟩) Zb
         have whc := wy.putW (k := k) (x := y) (a := ⟨nm, tk + st, some st⟩) Zb
         have fc := (fb.trans (Fr.new (o := .tup (alV ⟨nm, tk + st, some st⟩)) sb hy)).trans (Fr.wr (o := .dK (tabV (put (drop twi k) k (y, ⟨nm, tk + st, some st⟩)))) (ZV sb _ _) w0y.wts (by simp))
         have rc := (rb.up (Same.upd (o := .tup (alV ⟨nm, tk + st, some st⟩)) (sb.free hy))).side (o := .dK (tabV (put (drop twi k) k (y, ⟨nm, tk + st, some st⟩)))) w0y.wts
         have ef : fnT (put (drop twi k) k (y, ⟨nm, tk + st, some st⟩)) = fput (fnT twi) k (after (⟨nm, tk, some st⟩ : Al Str)) := by
           rw [Sg, VL, fput_fput]
           rfl
         have lpt : (put (drop twi k) k (y, ⟨nm, tk + st, some st⟩)).length ≤ 64 := by
           have := congrArg List.length (VU (t := drop twi k) (n := k) (y, (⟨nm, tk + st, some st⟩ : Al Str)) (by rw [Zx, if_pos rfl]))
           simp [keys] at this
           omega
         refine Yh (Qi (Uf (te := RX K) (NB := ["_law_number", "_law_world"]) (fv := [none, some 0]) (jx := 0) rfl (VM rfl rfl (by decide +kernel)) (Sb (Zs hu (pv 0) Zk (fun _ _ => rfl))) rfl rfl rfl (fun _ _ _ => Ui) (fun _ _ _ => (Yq (Za (ZD ZF (Zs hu (Zs hu (pv 1) Zk (fun _ _ => rfl)) (pv 0) (fun _ _ => rfl)) Zf (fun _ _ => rfl)) (Za (pv 0) Ze)))) sc__law_pass.nd (iy := 4) rfl (Or.inl rfl) rfl)) ?_
         refine ⟨_, rfl, _, _, rfl, whc.gWaits, _, _, rfl, whc.wts, fun o nf => ?_⟩
         refine Tq fc.same wc (by omega) rfl RW fun ls' H0' H' f2 sn => ?_
         refine ⟨dw, o, _, nf, Zb, ?_⟩
         have wd := wc.up f2.grow
         rw [thaw1 (wd.up f2.same).wts]
         refine ⟨H0', put (drop twi k) k (y, ⟨nm, tk + st, some st⟩), rs ++ [(tk, k, nm)], ls', _, _, _, _, rfl, ⟨fc.trans f2.wide, ?_, rc.up f2.grow, hlt, sn, ?_⟩, ?_⟩
         · rw [Sg, VL]
           exact wd
         · rw [ef]
           exact .snoc g.steps nx
         · rw [emu, emu, ef]
           omega
     · have hc : ¬ r.2.1 ≤ v.now + t := fun z => c (decide_eq_true z)
       refine Zl (YI hu (pv 0) Zk (pv 2) rfl) ?_
       refine ⟨_, rfl, _, rfl, _, _, rfl, wi.pNow _, ?_⟩
       refine Yh (Zq (pv 3)) ?_
       refine ⟨_, rfl, fin fun n b e => ?_⟩
       obtain ⟨x, al, _, hat, hfirst⟩ := Rw (H := H0i) (ls := ls) g.wd.ndw er hr hmin
       have := hfirst n b e
       unfold Ahead at this
       omega
theorem wd_merge {v : Vw} {dw dr : Addr} : TC [] (wdV v dw dr) = wdV v dw dr := by kernel_rfl
theorem pow_le64b {S : Int} (h1 : 2 ≤ S) (h2 : S ≤ 64) (i : Nat) : 0 ≤ S ^ i ∧ S ^ i ≤ 64 ^ i := by
 induction i with
 | zero => rw [Int.pow_zero, Int.pow_zero]; decide
 | succ i ih =>
   rw [Int.pow_succ, Int.pow_succ]
   exact ⟨Int.mul_nonneg ih.1 (by omega), Int.mul_le_mul ih.2 h2 (by omega) (Int.le_trans ih.1 ih.2)⟩
theorem pow6 {S : Int} (h1 : 2 ≤ S) (h2 : S ≤ 64) {i : Nat} (hi : i ≤ 6) : S ^ i ≤ 68719476736 := by
 have h : ∀ i : Fin 7, (64 : Int) ^ i.1 ≤ 68719476736 := by decide
 exact Int.le_trans (pow_le64b h1 h2 i).2 (h ⟨i, by omega⟩)
theorem YQ {x y : Str} (h : x ≠ y) : ¬ V.str x = V.str y := fun z => h (by injection z)
def spNew : Sp := fun vs H Q _ => ∃ (S : Int) (n : Nat), vs = [.int S, .int n] ∧ ∀ q dw dr, H q = none → upd H q (.dK []) dw = none → upd (upd H q (.dK [])) dw (.dK []) dr = none → Q (.ref q) (upd (upd (upd (upd H q (.dK [])) dw (.dK [])) dr (.dK [])) q (.dK (wdV (newV S n) dw dr)))
theorem sc__law_new : FnScope ["_law_slots", "_law_levels"] ["_law_slots", "_law_levels"] (Zd XI) := Zw
theorem ok__law_new (T : Txt K mg a) : FnOk P w K mg base (CXe P w) 1 a.f__law_new a.fd__law_new ["_law_slots", "_law_levels"] spNew := by
 refine T.F__law_new.okN sc__law_new (fun vs H Q E h => ?_) (fun cdv A' outer s H vs Q E hr h => ?_)
 · obtain ⟨S, n, rfl, _⟩ := h
   rfl
 · obtain ⟨S, n, rfl, kk⟩ := h
   refine ⟨_, (Zg (Zq (pe_disp (VE Zk (pv 0) (VE Zk (pv 1) (VE Zk Zf (VE Zk Zf (VE Zk XA (VE Zk XA pps_nil)))))) rfl rfl (fun z => by cases z) (by decide)))), ?_⟩
   refine fun q hq => ⟨_, rfl, _, rfl, fun dw hdw dr hdr => ⟨?_, wdV (newV S n) dw dr, rfl, (by show 6 ≤ 15; decide), ?_⟩⟩
   · have n1 : q ≠ dr := fun z => by
       have h1 : upd (upd H q (.dK [])) dw (.dK []) q ≠ none := by
         unfold upd
         by_cases e : q = dw <;> simp [e]
       rw [← z] at hdr
       exact h1 hdr
     have n2 : q ≠ dw := fun z => by rw [← z, Zb] at hdw; cases hdw
     rw [Zc n1, Zc n2]
     exact Zb
   · rw [wd_merge]
     exact kk q dw dr hq hdw hdr
def spWheels (K : W.Frag) : Sp := fun vs H Q _ => ∃ (l : Addr) (ns : List Int) (k : Int), vs = [.ref l, .int k] ∧ SqL K H l (ns.map V.int) ∧ ∀ (S : Int) (n : Nat) (H' : Hp) (p : Addr), (2 ≤ S ∧ S ≤ 64) → (1 ≤ n ∧ n ≤ 6) → Same H H' → H' p = some (.tup [.int S, .int n]) → Q (.ref p) H'
theorem sc__law_wheels : FnScope ["_law_script", "_law_k", "_law_number"] ["_law_script", "_law_k"] (Zd YM) := Zw
theorem SD (T : Txt K mg a) : FnOk P w K mg base (CXe P w) 3 a.f__law_wheels a.fd__law_wheels ["_law_script", "_law_k"] (spWheels K) := by
 have G__law_mix := Vx (P := P) (w := w) (base := base) T
 refine T.F__law_wheels.okN sc__law_wheels (fun vs H Q E h => ?_) (fun cdv A' outer s H vs Q E hr h => ?_)
 · obtain ⟨l, ns, k, rfl, _⟩ := h
   rfl
 · obtain ⟨l, ns, k, rfl, hl, kk⟩ := h
   refine ⟨_, Ya, ?_⟩
   refine Zl (Zz (i := 2) sc__law_wheels.nd rfl (Or.inl rfl) (ZA G__law_mix (hr.mono (by decide)) (by rfl) T.f__law_mix T.kp__law_mix T.B__law_mix .nil ZE (Za (pv 0) (Za (pv 1) Ze)))) ?_
   refine ⟨_, rfl, _, rfl, l, ns, k, rfl, hl, fun m g0 g1 => ?_⟩
   change TSem _ (_ :: _) _ _ _
   generalize hL1 : Expr.List (Expr.Constant (.int 2) _ _ :: _) _ = L1
   generalize hL2 : Expr.List (Expr.Constant (.int 1) _ _ :: _) _ = L2
   refine Yh (Zq (Yq (Za (ZD Yo (Qk hL1 rfl) (Zp Yc (pv 2) Zf) (fun _ _ => rfl)) (Za (ZD Yo (Qk hL2 rfl) (Zp Yc (Zp ZJ (pv 2) Zf) Zf) (fun _ _ => rfl)) Ze)))) ?_
   clear hL1 hL2
   refine ⟨by decide, fun q1 hq1 => ?_⟩
   obtain ⟨S, hS1, hS2⟩ := pickI (ns := [2, 2, 3, 4, 10, 64]) (i := m % 6) (Int.emod_nonneg _ (by decide)) (Int.emod_lt_of_pos _ (by decide))
   have hSb : 2 ≤ S ∧ S ≤ 64 := by simp at hS2; omega
   refine ⟨_, rfl, _, _, rfl, rfl, (by show (0 : Int) < 6; decide), _, _, _, .int S, rfl, rfl, SqL.of Zb, hS1, ?_⟩
   refine ⟨by decide, fun q2 hq2 => ?_⟩
   obtain ⟨n, hn1, hn2⟩ := pickI (ns := [1, 2, 3, 4, 5, 6]) (i := m / 6 % 6) (Int.emod_nonneg _ (by decide)) (Int.emod_lt_of_pos _ (by decide))
   have hnb : 1 ≤ n ∧ n ≤ 6 := by simp at hn2; omega
   refine ⟨_, rfl, _, _, rfl, rfl, ⟨by decide, by decide⟩, _, _, rfl, rfl, (by show (0 : Int) < 6; decide), _, _, _, .int n, rfl, rfl, SqL.of Zb, hn1, (by show 2 ≤ sizeLine; decide), fun p hp => ?_⟩
   obtain ⟨n', rfl⟩ : ∃ n' : Nat, n = (n' : Int) := ⟨n.toNat, by omega⟩
   exact kk S n' _ p hSb (by omega) ((Same.upd hq1).trans ((Same.upd hq2).trans (Same.upd hp))) Zb
def spTicks (K : W.Frag) : Sp := fun vs H Q _ => ∃ (H0 : Hp) (l : Addr) (ns : List Int) (k : Int) (q dw dr : Addr) (v : Vw) (j : Nat), vs = [.ref l, .int k, .ref q] ∧ SqL K H l (ns.map V.int) ∧ Same H0 H ∧ Wld H0 q dw dr v ∧ LOk j v ∧
 ∀ (H0' H' : Hp) (t : Int), Fr [] H0 H H0' H' → 0 ≤ t → t ≤ 10000000000000 → Q (.int t) H'
theorem sc__law_ticks : FnScope ["_law_script", "_law_k", "_law_world", "_law_number", "_law_span", "_law_j", "_law_some"] ["_law_script", "_law_k", "_law_world"] (Zd YZ) := Zw
set_option maxHeartbeats 2000000 in
theorem Rm (T : Txt K mg a) : FnOk P w K mg base (CXe P w) 3 a.f__law_ticks a.fd__law_ticks ["_law_script", "_law_k", "_law_world"] (spTicks K) := by
 have G__law_mix := Vx (P := P) (w := w) (base := base) T
 refine T.F__law_ticks.okN sc__law_ticks (fun vs H Q E h => ?_) (fun cdv A' outer s H vs Q E hr h => ?_)
 · obtain ⟨H0, l, ns, k, q, dw, dr, v, j, rfl, _⟩ := h
   rfl
 · obtain ⟨H0, l, ns, k, q, dw, dr, v, j, rfl, hl, s0, ⟨tw, tr, w0⟩, lo, kk⟩ := h
   have hu := YL hr
   have w1 := w0.up s0
   obtain ⟨a1, a2⟩ := lo.sl
   refine ⟨_, Ya, ?_⟩
   refine Zl (Zz (i := 3) sc__law_ticks.nd rfl (Or.inl rfl) (ZA G__law_mix (hr.mono (by decide)) (by rfl) T.f__law_mix T.kp__law_mix T.B__law_mix .nil ZE (Za (pv 0) (Za (pv 1) Ze)))) ?_
   refine ⟨_, rfl, _, rfl, l, ns, k, rfl, hl, fun m g0 g1 => ?_⟩
   refine Zl (Zz (i := 4) sc__law_ticks.nd rfl (Or.inl rfl) Zf) ?_
   refine Zl (Vp PassesOwn.never rfl (VG rfl T.b_range (Za (Zp Yc (Zp ZJ (pv 3) Zf) Zf) Ze)) (Yk (i := 5) sc__law_ticks.nd rfl (Or.inl rfl)) (Zg (Zz (i := 4) sc__law_ticks.nd rfl (Or.inl rfl) (Zp Xj (pv 4) (Zs hu (pv 2) Zk (fun _ _ => rfl)))))) ?_
   have e3 := Int.emod_nonneg (m / 8) (b := 7) (by omega)
   have e4 := Int.emod_lt_of_pos (m / 8) (b := 7) (by omega)
   refine ⟨_, rfl, _, _, rfl, rfl, ⟨by decide, by decide⟩, _, _, rfl, rfl, (by show (0 : Int) < 7; decide), _, rfl, (by omega), (by omega), ?_⟩
   refine Vk (lo := 0) (n := (m / 8 % 7).toNat) (fun i σ Hi => ∃ x, σ = [some (.ref l), some (.int k), some (.ref q), some (.int m), some (.int (v.S ^ i)), x, none] ∧ Hi = H) ⟨none, by rw [Int.pow_zero]; rfl, rfl⟩ ?_ ?_
   · rintro i σ Hi hi ⟨x, rfl, rfl⟩
     obtain ⟨z1, z2⟩ := XR a1 a2 (i := i) (by omega)
     refine ⟨_, rfl, _, rfl, _, _, rfl, w1.gSlots, _, _, rfl, rfl, .inl ⟨by omega, Int.lt_of_le_of_lt z2 (by decide)⟩, some (.int (0 + (i : Int))), ?_, rfl⟩
     rw [Int.pow_succ]
     rfl
   · rintro σ Hi ⟨x5, rfl, rfl⟩
     obtain ⟨z1, z2⟩ := XR a1 a2 (i := (m / 8 % 7).toNat) (by omega)
     have z3 : v.S ^ (m / 8 % 7).toNat ≤ 68719476736 := pow6 a1 a2 (by omega)
     generalize v.S ^ (m / 8 % 7).toNat = sp at z1 z2 z3
     refine Zl (Zz (i := 6) sc__law_ticks.nd rfl (Or.inl rfl) (Yr (Za (Zp Yc (Zp ZJ (pv 3) Zf) Zf) (Za (pv 4) (Za (Zp XY (pv 4) Zf) (Za (Zp Yg (pv 4) Zf) (Za (Zp Yc (Zp ZJ (pv 3) Zf) Zf) (Za (Zp Yc (Zp ZJ (pv 3) Zf) (Zp Xj (pv 4) Zf)) Ze)))))))) ?_
     have f1 := Int.emod_nonneg (m / 64) (b := sp * 3) (by omega)
     have f2 := Int.emod_lt_of_pos (m / 64) (b := sp * 3) (by omega)
     refine ⟨_, rfl, _, _, rfl, rfl, ⟨by decide, by decide⟩, _, _, rfl, rfl, (by show (0 : Int) < 5; decide), _, rfl, _, rfl, _, _, rfl, rfl, _, rfl, _, _, rfl, rfl, _, rfl, _, _, rfl, rfl, ⟨by decide, by decide⟩, _, _, rfl, rfl, (by show (0 : Int) < 200; decide), _, rfl, _, _, rfl, rfl, ⟨by decide, by decide⟩, _, rfl, _, _, rfl, rfl, .inr ⟨by decide, by decide⟩, _, _, rfl, rfl, (by show (0 : Int) < sp * 3; omega), (by show 6 ≤ sizeLine; decide), fun q1 hq1 => ?_⟩
     refine Yh (Zq (ZD Yo (Zp op_cat (pv 6) (Yr (Za (Zp Yc (Zp ZJ (pv 3) Zf) Zf) (Za Zf Ze)))) (Zp Yc (pv 3) Zf) (fun _ _ => rfl))) ?_
     refine ⟨_, rfl, _, rfl, _, _, rfl, rfl, ⟨by decide, by decide⟩, _, _, rfl, rfl, (by show (0 : Int) < 20; decide), (by show 2 ≤ sizeLine; decide), fun q2 hq2 => ?_⟩
     have n12 : q1 ≠ q2 := fun z => by rw [← z, Zb] at hq2; cases hq2
     refine ⟨_, _, _, _, rfl, rfl, by rw [Zc n12]; exact Zb, Zb, (by show 6 + 2 ≤ sizeLine; decide), fun q3 hq3 => ?_⟩
     obtain ⟨tk, ht1, ht2⟩ := pickI (ns := [m / 64 % 5, sp, sp - 1, sp + 1, m / 64 % 200, m / 64 % (sp * 3), m / 64 % 20, 10000000000000]) (i := m % 8) (Int.emod_nonneg _ (by decide)) (Int.emod_lt_of_pos _ (by decide))
     have htk : 0 ≤ tk ∧ tk ≤ 10000000000000 := by
       simp at ht2
       omega
     refine ⟨_, rfl, _, _, rfl, rfl, (by show (0 : Int) < 8; decide), _, _, _, .int tk, rfl, rfl, SqL.of Zb, ht1, ?_⟩
     exact kk _ _ tk ((Fr.new s0 hq1).trans ((Fr.new (ZV s0 _ _) hq2).trans (Fr.new (ZV (ZV s0 _ _) _ _) hq3))) htk.1 htk.2
def Vd : Deed → List V
 | .set due step name => [.str "set", .int due, Vc step, .str name]
 | .pass t => [.str "pass", .int t, .non, .str ""]
 | .move k due => [.str "move", .int k, .int due, .str ""]
 | .back k due => [.str "back", .int k, .int due, .str ""]
 | .rest k due => [.str "rest", .int k, .int due, .str ""]
 | .on k due => [.str "on", .int k, .int due, .str ""]
def Yx (t : Int) (tw : TabA) : List Int := tw.filterMap fun p => p.2.2.step.map fun s => t / s
theorem stepsOf_mem {t : Int} {tw : TabA} {p : Int × Addr × Al Str} {s : Int} (hp : p ∈ tw) (hs : p.2.2.step = some s) : t / s ∈ Yx t tw := List.mem_filterMap.mpr ⟨p, hp, by rw [hs]; rfl⟩
theorem stepsOf_nn {t : Int} {tw : TabA} (h : 0 ≤ t) (hs : ∀ p ∈ tw, ∀ s, p.2.2.step = some s → 0 < s) : ∀ x ∈ Yx t tw, 0 ≤ x := fun x hx => by
 obtain ⟨p, hp, e⟩ := List.mem_filterMap.mp hx
 cases es : p.2.2.step with
 | none => rw [es] at e; cases e
 | some s =>
   rw [es] at e
   cases e
   exact Int.ediv_nonneg h (Int.le_of_lt (hs p hp s es))
def spDeed (K : W.Frag) : Sp := fun vs H Q _ => ∃ (H0 : Hp) (l : Addr) (ns : List Int) (k : Int) (q dw dr : Addr) (v : Vw) (j : Nat), vs = [.ref l, .int k, .ref q] ∧ SqL K H l (ns.map V.int) ∧ Same H0 H ∧ Wld H0 q dw dr v ∧ LOk j v ∧
 ∀ (H0' H' : Hp) (td : Addr) (d : Deed), Fr [] H0 H H0' H' → H0' td = some (.tup (Vd d)) → SY v d → Q (.ref td) H'
theorem sc__law_deed : FnScope ["_law_script", "_law_k", "_law_world", "_law_number", "_law_word", "_law_ticks_here", "_law_rings", "_law_step", "_law_at"] ["_law_script", "_law_k", "_law_world"] (Zd Xt) := Zw
abbrev tcRings (K : W.Frag) : TT := tTest (tOp (fun x y H Q => y = .non ∧ Q (.bl (!decide (x = .non))) H) (tOp (rIxT K) (tVar 0) (tC (.int 2))) (tC .non))
abbrev teRings (K : W.Frag) : TE := tOp (rI CDivB fun i j => .int (i / j)) (tVar 1) (tOp (rIxT K) (tVar 0) (tC (.int 2)))
theorem rings_comp {σ : St} {q dw dr : Addr} {tw tr : TabA} {v : Vw} {j : Nat} {H0 H : Hp} {o : Obj} {Q : VK} {t : Int} (s0 : Same H0 H) (w0 : WAt H0 q dw dr tw tr v) (lo : LOk j v) (hσ : blk [none, some 5] σ = [none, some (.int t)])
   (hd : ∀ acc H', H acc = none → H' = upd H acc (.lst ((Yx t tw).map V.int)) → acc ≠ dw → Q (.ref acc) (upd H' dw (.frz o (.dK (tabV tw))))) :
   UJ (Itv dw o (tabV tw)) [none, some 5] 0 (tcRings K) (teRings K) σ (upd H dw (.frz o (.dK (tabV tw)))) Q := by
 have w1 := w0.up s0
 have lz := (w0.lens lo).1
 refine comp_vals (fun i ys Hi => Hi = upd H dw (.frz o (.dK (tabV tw))) ∧ ys = (Yx t (tw.take i)).map V.int) ⟨rfl, rfl⟩ ?_ ?_ ?_
 · rintro i ys Hi hi ⟨rfl, rfl⟩
   refine ⟨Zb, ?_⟩
   rw [List.length_map]
   have : (Yx t (tw.take i)).length ≤ (tw.take i).length := List.length_filterMap_le ..
   rw [List.length_take] at this
   have : (1001 : Nat) ≤ sizeLine := by decide
   omega
 · rintro i k y ys Hi N hk ⟨rfl, rfl⟩ kq
   obtain ⟨n, x, al, hi, rfl, rfl, hg, hw, hx⟩ := w1.atW hk
   rw [hσ]
   have hx' : upd H dw (.frz o (.dK (tabV tw))) x = some (.tup (alV al)) := by rw [Zc (fun z => by rw [z, w1.wts] at hx; cases hx)]; exact hx
   have ex : Yx t (tw.take (i + 1)) = Yx t (tw.take i) ++ Yx t [(n, x, al)] := by
     unfold Yx
     rw [List.take_add_one, hi, List.filterMap_append]
     rfl
   obtain ⟨nm, tk, sp⟩ := al
   cases sp with
   | none =>
     refine ⟨_, rfl, _, _, _, _, rfl, rfl, SqT.of hx', rfl, rfl, _, rfl, iteF (kq _ _ ⟨rfl, ?_⟩)⟩
     rw [ex, show Yx t [(n, x, (⟨nm, tk, none⟩ : Al Str))] = [] from rfl, List.append_nil]
   | some st =>
     obtain ⟨st1, st2⟩ := (lo.wait n _ hw).2.2.st st rfl
     refine ⟨_, rfl, _, _, _, _, rfl, rfl, SqT.of hx', rfl, rfl, _, rfl, iteT ⟨_, rfl, _, rfl, _, _, _, _, rfl, rfl, SqT.of hx', rfl, _, _, rfl, rfl, ⟨st1, Int.lt_trans st2 (by decide)⟩, kq _ _ ⟨rfl, ?_⟩⟩⟩
     rw [ex, List.map_append]
     rfl
 · rintro ys Hi ⟨rfl, rfl⟩ acc hacc
   have hpd : dw ≠ acc := fun z => by rw [← z, Zb] at hacc; cases hacc
   have hp' : H acc = none := by rw [Zc hpd.symm] at hacc; exact hacc
   rw [Sk hpd, SL, List.take_length]
   exact hd acc _ hp' rfl hpd.symm
theorem tick_or {b : Bool} {t : Int} : t - (if b = true then 1 else 0) * (t + 1) = t ∨ t - (if b = true then 1 else 0) * (t + 1) = -1 := by
 cases b
 · left; simp
 · right; simp; omega
theorem okS {x : Str} (h : x ∈ (["a", "", "b c"] : List Str)) : NmOk x := by
 have h1 : NmOk ("a" : Str) := ⟨by decide +kernel, by decide +kernel⟩
 have h2 : NmOk ("" : Str) := ⟨by decide +kernel, by decide +kernel⟩
 have h3 : NmOk ("b c" : Str) := ⟨by decide +kernel, by decide +kernel⟩
 simp only [List.mem_cons, List.not_mem_nil, or_false] at h
 rcases h with h | h | h
 · rw [h]; exact h1
 · rw [h]; exact h2
 · rw [h]; exact h3
set_option maxHeartbeats 8000000 in
theorem Qv (T : Txt K mg a) : FnOk P w K mg base (CXe P w) 4 a.f__law_deed a.fd__law_deed ["_law_script", "_law_k", "_law_world"] (spDeed K) := by
 have G__law_mix := Vx (P := P) (w := w) (base := base) T
 have G__law_ticks := Rm (P := P) (w := w) (base := base) T
 refine T.F__law_deed.okN sc__law_deed (fun vs H Q E h => ?_) (fun cdv A' outer s H vs Q E hr h => ?_)
 · obtain ⟨H0, l, ns, k, q, dw, dr, v, j, rfl, _⟩ := h
   rfl
 · obtain ⟨H0, l, ns, k, q, dw, dr, v, j, rfl, hl, s0, ⟨tw, tr, w0⟩, lo, kk⟩ := h
   have hu := YL hr
   have n1 := lo.now
   have n2 := lo.next
   have n3 := lo.j24
   refine ⟨_, Ya, ?_⟩
   refine Zl (Zz (i := 3) sc__law_deed.nd rfl (Or.inl rfl) (ZA G__law_mix (hr.mono (by decide)) (by rfl) T.f__law_mix T.kp__law_mix T.B__law_mix .nil ZE (Za (pv 0) (Za (pv 1) Ze)))) ?_
   refine ⟨_, rfl, _, rfl, l, ns, k, rfl, hl, fun m g0 g1 => ?_⟩
   change TSem _ (_ :: _) _ _ _
   generalize hL1 : Expr.List _ _ = L1
   refine Zl (Zz (i := 4) sc__law_deed.nd rfl (Or.inl rfl) (ZD Yo (Qk hL1 rfl) (Zp Yc (pv 3) Zf) (fun _ _ => rfl))) ?_
   clear hL1
   refine ⟨by decide, fun q1 hq1 => ?_⟩
   obtain ⟨wd, hw1, hw2⟩ := pickS (ns := ["set", "set", "set", "pass", "pass", "move", "back", "rest", "on", "set", "on"]) (i := m % 11) (Int.emod_nonneg _ (by decide)) (Int.emod_lt_of_pos _ (by decide))
   refine ⟨_, rfl, _, _, rfl, rfl, (by show (0 : Int) < 11; decide), _, _, _, .str wd, rfl, rfl, SqL.of Zb, hw1, ?_⟩
   generalize hH1 : upd H q1 _ = H1
   have hl1 : SqL K H1 l (ns.map V.int) := by rw [← hH1]; exact (Same.upd hq1).seq hl
   obtain ⟨H01, f1⟩ : ∃ H01, Fr [] H0 H H01 H1 := by rw [← hH1]; exact ⟨_, Fr.new s0 hq1⟩
   clear hH1 hq1 hw1
   have w01 := w0.up f1.grow
   refine Zl (Zz (i := 5) sc__law_deed.nd rfl (Or.inr rfl) (ZA G__law_ticks (hr.mono (by decide)) (by rfl) T.f__law_ticks T.kp__law_ticks T.B__law_ticks .nil ZE (Za (pv 0) (Za (Zp Yg (pv 1) Zf) (Za (pv 2) Ze))))) ?_
   refine ⟨_, rfl, _, rfl, _, _, rfl, rfl, _, rfl, H01, l, ns, k + 1, q, dw, dr, v, j, rfl, hl1, f1.same, ⟨tw, tr, w01⟩, lo, fun H02 H2 t f2 t0 t1 => ?_⟩
   have f := f1.trans f2
   have s2 := f.same
   have w02 := w0.up f.grow
   have w2 := w02.up s2
   by_cases hp : wd = "pass"
   · subst hp
     refine Zl (ZI (Zo Xy (pv 4) Zk (Zv _)) Ya Zy) ?_
     refine ⟨_, rfl, rfl, _, rfl, ?_⟩
     rw [decide_eq_true rfl]
     refine iteT ?_
     refine Zl (Zz (i := 6) sc__law_deed.nd rfl (Or.inl rfl) (ZL (call_sumI rfl) (by rfl) T.b_sum boot_sum (Za (pe_thaw (SC (te := teRings K) (tc := tcRings K) (NB := ["_law_one", "_law_ticks_here"]) (fv := [none, some 5]) (jx := 0) rfl (VM rfl rfl (by decide +kernel)) (pi_vals (pe_bm0 F.plainAttrs_dict F.slot_dict_values F.type_dict_values mt_vals (Zs hu (pv 2) Zk (fun _ _ => rfl)))) rfl rfl rfl (fun _ _ _ => pifs_one (Zo Vv (ZD ZF (pv 0) Zf (fun _ _ => rfl)) ZO (Zv _))) (fun _ _ _ => (Zp ZJ (pv 1) (ZD ZF (pv 0) Zf (fun _ _ => rfl)))))) Ze))) ?_
     refine ⟨_, rfl, _, _, rfl, w2.gWaits, .inr (.inr (.inl ⟨rfl, .inl ⟨_, w2.wts⟩⟩)), dw, _, rfl, rfl, w2.wts, fun vv hvv => ?_⟩
     have f3 := f.trans (Fr.new (o := valsO vv dw) s2 hvv)
     have w03 := w0.up f3.grow
     have w3 := w03.up f3.same
     refine ⟨vv, dw, _, rfl, Zb, w3.wts, fun o nf => ?_⟩
     refine rings_comp f3.same w03 lo rfl fun acc H' hacc e hne => ?_
     refine ⟨dw, o, _, nf, Zb, ?_⟩
     have f4 := f3.trans (Fr.new (o := .lst ((Yx t tw).map V.int)) f3.same hacc)
     rw [← e] at f4
     have hac : H' acc = some (.lst ((Yx t tw).map V.int)) := by rw [e]; exact Zb
     have w04 := w0.up f4.grow
     have w4 := w04.up f4.same
     rw [thaw1 w4.wts]
     refine ⟨acc, Yx t tw, rfl, SqL.of hac, ?_⟩
     have nn : ∀ x ∈ Yx t tw, 0 ≤ x := stepsOf_nn t0 fun p hp s hs => by
       obtain ⟨n, x, al⟩ := p
       have hg := VW w0.ndw hp
       exact ((lo.wait n al (by rw [← w0.ew]; show (get tw n).map (·.2) = _; rw [hg]; rfl)).2.2.st s hs).1
     refine Zl (ZI (Zo op_gt (pv 6) Zf (Zv _)) (Zg (Zz (i := 5) sc__law_deed.nd rfl (Or.inr rfl) (Zp Yc (pv 5) Zf))) Zy) ?_
     refine ⟨_, rfl, _, _, rfl, rfl, _, rfl, ite2 (fun c => ?_) (fun c => ?_)⟩
     · refine ⟨_, rfl, _, _, rfl, rfl, (by show (0 : Int) < 30; decide), ?_⟩
       have t2 := Int.emod_nonneg t (b := 30) (by decide)
       have t3 := Int.emod_lt_of_pos t (b := 30) (by decide)
       refine Yh (Zq (Yq (Za (pv 4) (Za (Zp XY (pv 5) (Zp Xj (UF RQ rfl T.b_int PyProof.Rows.boot_int (Za (Te Xy (Zp Yc (Zp ZJ (pv 3) Zf) Zf) Zf (Zv _)) Ze)) (Zp Yg (pv 5) Zf))) (Za ZO (Za Zk Ze)))))) ?_
       refine ⟨_, rfl, _, rfl, _, rfl, _, _, rfl, rfl, ⟨by decide, by decide⟩, _, _, rfl, rfl, (by show (0 : Int) < 24; decide), rfl, .inr ⟨_, rfl, _, rfl, _, _, rfl, rfl, _, _, rfl, rfl, .inr ⟨by omega, by omega⟩, _, _, rfl, rfl, (by show 4 ≤ sizeLine; decide), fun td htd => ?_⟩⟩
       refine kk _ _ td (.pass _) (f4.trans (Fr.new f4.same htd)) Zb ?_
       rcases tick_or (b := decide (V.int (m / 11 % 24) = V.int 0)) (t := t % 30) with e | e
       · rw [e]
         exact ⟨VB (by omega) (by omega), by omega, fun _ => mu_few lo (fun k al s h1 h2 => div_small t2 t3 ((lo.wait k al h1).2.2.st s h2).1) t2⟩
       · rw [e]
         exact ⟨VB (by omega) (by omega), by omega, fun z => by omega⟩
     · have c' : (Yx t tw).sum ≤ 60 := by
         have : ¬ 60 < (Yx t tw).sum := fun z => c (decide_eq_true z)
         omega
       refine Yh (Zq (Yq (Za (pv 4) (Za (Zp XY (pv 5) (Zp Xj (UF RQ rfl T.b_int PyProof.Rows.boot_int (Za (Te Xy (Zp Yc (Zp ZJ (pv 3) Zf) Zf) Zf (Zv _)) Ze)) (Zp Yg (pv 5) Zf))) (Za ZO (Za Zk Ze)))))) ?_
       refine ⟨_, rfl, _, rfl, _, rfl, _, _, rfl, rfl, ⟨by decide, by decide⟩, _, _, rfl, rfl, (by show (0 : Int) < 24; decide), rfl, .inr ⟨_, rfl, _, rfl, _, _, rfl, rfl, _, _, rfl, rfl, .inr ⟨by omega, by omega⟩, _, _, rfl, rfl, (by show 4 ≤ sizeLine; decide), fun td htd => ?_⟩⟩
       refine kk _ _ td (.pass _) (f4.trans (Fr.new f4.same htd)) Zb ?_
       rcases tick_or (b := decide (V.int (m / 11 % 24) = V.int 0)) (t := t) with e | e
       · rw [e]
         refine ⟨VB (by omega) (by omega), by omega, fun _ => mu_few lo (fun k al s h1 h2 => ?_) t0⟩
         obtain ⟨x, hx, _⟩ := w0.getW h1
         exact sum_each nn c' _ (stepsOf_mem (XC hx) h2)
       · rw [e]
         exact ⟨VB (by omega) (by omega), by omega, fun z => by omega⟩
   · refine Zl (ZI (Zo Xy (pv 4) Zk (Zv _)) Ya Zy) ?_
     refine ⟨_, rfl, rfl, _, rfl, ?_⟩
     rw [decide_eq_false (YQ hp)]
     refine iteF ?_
     by_cases hs : wd = "set"
     · subst hs
       refine Zl (ZI (Zo Xy (pv 4) Zk (Zv _)) Ya Zy) ?_
       refine ⟨_, rfl, rfl, _, rfl, ?_⟩
       rw [decide_eq_true rfl]
       refine iteT ?_
       refine Zl (Zz (i := 7) sc__law_deed.nd rfl (Or.inl rfl) ZO) ?_
       refine Zl (ZI (Zo Xy (Zp Yc (Zp ZJ (pv 3) Zf) Zf) Zf (Zv _)) (Zg (Zz (i := 7) sc__law_deed.nd rfl (Or.inl rfl) (ZD Yo (Yr (Za Zf (Za Zf (Za Zf (Za Zf (Za Zf (Za (pv 5) Ze))))))) (Zp Yc (Zp ZJ (pv 3) Zf) Zf) (fun _ _ => rfl)))) Zy) ?_
       obtain ⟨nm, hn1, hn2⟩ := pickS (ns := ["a", "", "b c"]) (i := m / 264 % 3) (Int.emod_nonneg _ (by decide)) (Int.emod_lt_of_pos _ (by decide))
       refine ⟨_, rfl, _, _, rfl, rfl, ⟨by decide, by decide⟩, _, _, rfl, rfl, (by show (0 : Int) < 4; decide), rfl, _, rfl, ite2 (fun c => ?_) (fun c => ?_)⟩
       · obtain ⟨st, hst1, hst2⟩ := pickI (ns := [1, 2, 3, 7, 0, t]) (i := m / 44 % 6) (Int.emod_nonneg _ (by decide)) (Int.emod_lt_of_pos _ (by decide))
         have hst : 0 ≤ st ∧ st ≤ 10000000000000 := by
           simp at hst2
           omega
         refine ⟨_, rfl, (by show 6 ≤ sizeLine; decide), fun q3 hq3 => ?_⟩
         refine ⟨_, rfl, _, _, rfl, rfl, ⟨by decide, by decide⟩, _, _, rfl, rfl, (by show (0 : Int) < 6; decide), _, _, _, .int st, rfl, rfl, SqL.of Zb, hst1, ?_⟩
         have f3 := f.trans (Fr.new (o := .lst ([1, 2, 3, 7, 0, t].map V.int)) s2 hq3)
         have w3 := (w0.up f3.grow).up f3.same
         refine Yh (Zq (Yq (Za (pv 4) (Za (Zp Yg (Zs hu (pv 2) Zk (fun _ _ => rfl)) (pv 5)) (Za (pv 7) (Za (ZD Yo (Yr (Za Zk (Za Zk (Za Zk Ze)))) (Zp Yc (Zp ZJ (pv 3) Zf) Zf) (fun _ _ => rfl)) Ze)))))) ?_
         refine ⟨_, rfl, _, rfl, _, _, rfl, w3.gNow, _, rfl, _, _, rfl, rfl, _, rfl, (by show 3 ≤ sizeLine; decide), fun q4 hq4 => ?_⟩
         refine ⟨_, rfl, _, _, rfl, rfl, ⟨by decide, by decide⟩, _, _, rfl, rfl, (by show (0 : Int) < 3; decide), _, _, _, .str nm, rfl, rfl, SqL.of Zb, hn1, (by show 4 ≤ sizeLine; decide), fun td htd => ?_⟩
         refine kk _ _ td (.set (v.now + t) (some st) nm) ((f3.trans (Fr.new f3.same hq4)).trans (Fr.new (ZV f3.same _ _) htd)) Zb ⟨VB (by omega) (by omega), fun s z => ?_, okS hn2⟩
         cases z
         exact ⟨by omega, VB (by omega) (by omega)⟩
       · refine Yh (Zq (Yq (Za (pv 4) (Za (Zp Yg (Zs hu (pv 2) Zk (fun _ _ => rfl)) (pv 5)) (Za (pv 7) (Za (ZD Yo (Yr (Za Zk (Za Zk (Za Zk Ze)))) (Zp Yc (Zp ZJ (pv 3) Zf) Zf) (fun _ _ => rfl)) Ze)))))) ?_
         refine ⟨_, rfl, _, rfl, _, _, rfl, w2.gNow, _, rfl, _, _, rfl, rfl, _, rfl, (by show 3 ≤ sizeLine; decide), fun q4 hq4 => ?_⟩
         refine ⟨_, rfl, _, _, rfl, rfl, ⟨by decide, by decide⟩, _, _, rfl, rfl, (by show (0 : Int) < 3; decide), _, _, _, .str nm, rfl, rfl, SqL.of Zb, hn1, (by show 4 ≤ sizeLine; decide), fun td htd => ?_⟩
         exact kk _ _ td (.set (v.now + t) none nm) ((f.trans (Fr.new s2 hq4)).trans (Fr.new (ZV s2 _ _) htd)) Zb ⟨VB (by omega) (by omega), (fun s z => by cases z), okS hn2⟩
     · refine Zl (ZI (Zo Xy (pv 4) Zk (Zv _)) Ya Zy) ?_
       refine ⟨_, rfl, rfl, _, rfl, ?_⟩
       rw [decide_eq_false (YQ hs)]
       refine iteF ?_
       have hM : (0 : Int) < if v.next + 1 > 1 then v.next + 1 else 1 := by split <;> omega
       have hM2 : (if v.next + 1 > 1 then v.next + 1 else 1) ≤ 25 := by split <;> omega
       refine Zl (Zz (i := 8) sc__law_deed.nd rfl (Or.inl rfl) (Zp XY (Zp Yc (Zp ZJ (pv 3) Zf) (ZL (call_max2 rfl) (by rfl) T.b_max boot_max (Za Zf (Za (Zp Yg (Zs hu (pv 2) Zk (fun _ _ => rfl)) Zf) Ze)))) (Zp ZJ (Zp Yc (Zp ZJ (pv 3) Zf) Zf) Zf))) ?_
       refine ⟨_, rfl, _, _, rfl, rfl, ⟨by decide, by decide⟩, _, rfl, _, _, rfl, w2.gMany, _, _, rfl, rfl, _, _, rfl, _, _, rfl, rfl, hM, _, rfl, _, _, rfl, rfl, ⟨by decide, by decide⟩, _, _, rfl, rfl, (by show (0 : Int) < 40; decide), _, _, rfl, rfl, ⟨by decide, by decide⟩, _, _, rfl, rfl, ?_⟩
       have b1 := Int.emod_nonneg (m / 11) (Int.ne_of_gt hM)
       have b2 := Int.emod_lt_of_pos (m / 11) hM
       generalize (if v.next + 1 > 1 then v.next + 1 else 1) = M at hM hM2 b1 b2
       generalize m / 11 % M = x1 at b1 b2
       refine Yh (Zq (Yq (Za (pv 4) (Za (pv 8) (Za (Zp XY (Zp Yg (Zs hu (pv 2) Zk (fun _ _ => rfl)) (pv 5)) (Zp ZJ (Zp Yc (Zp ZJ (pv 3) Zf) Zf) Zf)) (Za Zk Ze)))))) ?_
       refine ⟨_, rfl, _, rfl, _, rfl, _, _, rfl, w2.gNow, _, rfl, _, _, rfl, rfl, _, rfl, _, _, rfl, rfl, ⟨by decide, by decide⟩, _, _, rfl, rfl, (by show (0 : Int) < 3; decide), _, _, rfl, rfl, ⟨by decide, by decide⟩, _, _, rfl, rfl, (by show 4 ≤ sizeLine; decide), fun td htd => ?_⟩
       have lk : Lg (x1 - m / 3000 % 40 / 39) := VB (by omega) (by omega)
       have ld : Lg (v.now + t - m / 9000 % 3 / 2) := VB (by omega) (by omega)
       have fz := f.trans (Fr.new (o := .tup [.str wd, .int (x1 - m / 3000 % 40 / 39), .int (v.now + t - m / 9000 % 3 / 2), .str ""]) s2 htd)
       simp only [List.mem_cons, List.not_mem_nil, or_false] at hw2
       rcases hw2 with h | h | h | h | h | h | h | h | h | h | h
       · exact absurd h hs
       · exact absurd h hs
       · exact absurd h hs
       · exact absurd h hp
       · exact absurd h hp
       · subst h
         exact kk _ _ td (.move _ _) fz Zb ⟨lk, ld⟩
       · subst h
         exact kk _ _ td (.back _ _) fz Zb lk
       · subst h
         exact kk _ _ td (.rest _ _) fz Zb lk
       · subst h
         exact kk _ _ td (.on _ _) fz Zb lk
       · exact absurd h hs
       · subst h
         exact kk _ _ td (.on _ _) fz Zb lk
def To : Deed → Str
 | .set _ _ _ => "set"
 | .pass _ => "pass"
 | .move _ _ => "move"
 | .back _ _ => "back"
 | .rest _ _ => "rest"
 | .on _ _ => "on"
theorem deed0 (d : Deed) : atI (Vd d) 0 = some (.str (To d)) := by cases d <;> rfl
theorem idx0 : ∀ m : Nat, m < 0 → ([true, false, false] : List Bool)[m]? = some false := fun m hm => absurd hm (Nat.not_lt_zero m)
theorem idx1 : ∀ m : Nat, m < 1 → ([false, true, false] : List Bool)[m]? = some false := fun m hm => by
 have e : m = 0 := by omega
 rw [e]
 rfl
theorem tTry_by {K : W.Frag} {Tc : Addr} {j : Nat} {tb : TSx} {ts : TS} {D : Ends} {σ : St} {H : Hp} (h : ∀ E : XS, (∀ σ' cls H', (∃ C, cls = .ref C ∧ W.subIn K (.ref C) (.ref Tc) = some true ∧ ∀ ea, H' ea = none → ts { nx := fun σ2 H2 => D.nx (σ2.set j none) H2, rt := fun _ _ => False } (σ'.set j (some (.ref ea))) (upd H' ea (excO ea (.ref C)))) → E σ' cls H') → tb D E σ H) : tTry K Tc j tb ts D σ H := h _ (fun _ _ _ z => z)
def spDone : Sp := fun vs H Q _ => ∃ (H0 : Hp) (q dw dr : Addr) (v : Vw) (j : Nat) (d : Deed) (td : Addr), vs = [.ref q, .ref td] ∧ Same H0 H ∧ Wld H0 q dw dr v ∧ LOk j v ∧ SY v d ∧ H0 td = some (.tup (Vd d)) ∧ DoneAt q dw dr H0 H v d Q
theorem Qc : FnScope ["_law_world", "_law_deed_here"] ["_law_world", "_law_deed_here"] (Zd Xs) := Zw
set_option maxHeartbeats 4000000 in
theorem Qu (T : Txt K mg a) : FnOk P w K mg base (CXe P w) 3 a.f__law_done a.fd__law_done ["_law_world", "_law_deed_here"] spDone := by
 have G__law_set := ok__law_set (P := P) (w := w) (base := base) T
 have G__law_pass := Qq (P := P) (w := w) (base := base) T
 have G__law_move := Qs (P := P) (w := w) (base := base) T
 have G__law_back := Qx (P := P) (w := w) (base := base) T
 have G__law_rest := Qp (P := P) (w := w) (base := base) T
 have G__law_on := ok__law_on (P := P) (w := w) (base := base) T
 refine T.F__law_done.okN Qc (fun vs H Q E h => ?_) (fun cdv A' outer s H vs Q E hr h => ?_)
 · obtain ⟨H0, q, dw, dr, v, j, d, td, rfl, _⟩ := h
   rfl
 · obtain ⟨H0, q, dw, dr, v, j, d, td, rfl, s0, wl, lo, dk, ht0, kk⟩ := h
   have ht := s0 _ _ ht0
   have h0 := deed0 d
   refine ⟨_, Ya, ?_⟩
   refine Zl (ZI (Zo Xy (ZD ZF (pv 1) Zf (fun _ _ => rfl)) Zk (Zv _)) (Zg (Zq (ZA G__law_set (hr.mono (by decide)) (by rfl) T.f__law_set T.kp__law_set T.B__law_set .nil ZE (Za (pv 0) (Za (ZD ZF (pv 1) Zf (fun _ _ => rfl)) (Za (ZD ZF (pv 1) Zf (fun _ _ => rfl)) (Za (ZD ZF (pv 1) Zf (fun _ _ => rfl)) Ze))))))) Zy) ?_
   refine ⟨_, rfl, _, _, _, _, rfl, rfl, SqT.of ht, h0, rfl, _, rfl, ite2 (fun c => ?_) (fun c0 => ?_)⟩
   · have e := V.str.inj (of_decide_eq_true c)
     cases d with
     | set due step name =>
       replace ht : H td = some (.tup (Vd (.set due step name))) := ht
       exact ⟨_, rfl, _, rfl, _, _, _, _, rfl, rfl, SqT.of ht, rfl, _, rfl, _, _, _, _, rfl, rfl, SqT.of ht, rfl, _, rfl, _, _, _, _, rfl, rfl, SqT.of ht, rfl, H0, q, dw, dr, v, j, _, _, rfl, ⟨due, step, name, rfl, rfl⟩, s0, wl, lo, dk, kk⟩
     | _ => exact absurd e (by simp only [To]; decide +kernel)
   refine Zl (ZI (Zo Xy (ZD ZF (pv 1) Zf (fun _ _ => rfl)) Zk (Zv _)) (Zg (Zq (ZA G__law_pass (hr.mono (by decide)) (by rfl) T.f__law_pass T.kp__law_pass T.B__law_pass .nil ZE (Za (pv 0) (Za (ZD ZF (pv 1) Zf (fun _ _ => rfl)) Ze))))) Zy) ?_
   refine ⟨_, rfl, _, _, _, _, rfl, rfl, SqT.of ht, h0, rfl, _, rfl, ite2 (fun c => ?_) (fun c1 => ?_)⟩
   · have e := V.str.inj (of_decide_eq_true c)
     cases d with
     | pass t =>
       replace ht : H td = some (.tup (Vd (.pass t))) := ht
       exact ⟨_, rfl, _, rfl, _, _, _, _, rfl, rfl, SqT.of ht, rfl, H0, q, dw, dr, v, j, _, _, rfl, ⟨t, rfl, rfl⟩, s0, wl, lo, dk, kk⟩
     | _ => exact absurd e (by simp only [To]; decide +kernel)
   refine Zl (ZI (Zo Xy (ZD ZF (pv 1) Zf (fun _ _ => rfl)) Zk (Zv _)) (Zg (Zq (ZA G__law_move (hr.mono (by decide)) (by rfl) T.f__law_move T.kp__law_move T.B__law_move .nil ZE (Za (pv 0) (Za (ZD ZF (pv 1) Zf (fun _ _ => rfl)) (Za (ZD ZF (pv 1) Zf (fun _ _ => rfl)) Ze)))))) Zy) ?_
   refine ⟨_, rfl, _, _, _, _, rfl, rfl, SqT.of ht, h0, rfl, _, rfl, ite2 (fun c => ?_) (fun c2 => ?_)⟩
   · have e := V.str.inj (of_decide_eq_true c)
     cases d with
     | move k due =>
       replace ht : H td = some (.tup (Vd (.move k due))) := ht
       exact ⟨_, rfl, _, rfl, _, _, _, _, rfl, rfl, SqT.of ht, rfl, _, rfl, _, _, _, _, rfl, rfl, SqT.of ht, rfl, H0, q, dw, dr, v, j, _, _, rfl, ⟨k, due, rfl, rfl⟩, s0, wl, lo, dk, kk⟩
     | _ => exact absurd e (by simp only [To]; decide +kernel)
   refine Zl (ZI (Zo Xy (ZD ZF (pv 1) Zf (fun _ _ => rfl)) Zk (Zv _)) (Zg (Zq (ZA G__law_back (hr.mono (by decide)) (by rfl) T.f__law_back T.kp__law_back T.B__law_back .nil ZE (Za (pv 0) (Za (ZD ZF (pv 1) Zf (fun _ _ => rfl)) Ze))))) Zy) ?_
   refine ⟨_, rfl, _, _, _, _, rfl, rfl, SqT.of ht, h0, rfl, _, rfl, ite2 (fun c => ?_) (fun c3 => ?_)⟩
   · have e := V.str.inj (of_decide_eq_true c)
     cases d with
     | back k due =>
       replace ht : H td = some (.tup (Vd (.back k due))) := ht
       exact ⟨_, rfl, _, rfl, _, _, _, _, rfl, rfl, SqT.of ht, rfl, H0, q, dw, dr, v, j, _, _, rfl, ⟨k, due, rfl, rfl⟩, s0, wl, lo, dk, kk⟩
     | _ => exact absurd e (by simp only [To]; decide +kernel)
   refine Zl (ZI (Zo Xy (ZD ZF (pv 1) Zf (fun _ _ => rfl)) Zk (Zv _)) (Zg (Zq (ZA G__law_rest (hr.mono (by decide)) (by rfl) T.f__law_rest T.kp__law_rest T.B__law_rest .nil ZE (Za (pv 0) (Za (ZD ZF (pv 1) Zf (fun _ _ => rfl)) Ze))))) Zy) ?_
   refine ⟨_, rfl, _, _, _, _, rfl, rfl, SqT.of ht, h0, rfl, _, rfl, ite2 (fun c => ?_) (fun c4 => ?_)⟩
   · have e := V.str.inj (of_decide_eq_true c)
     cases d with
     | rest k due =>
       replace ht : H td = some (.tup (Vd (.rest k due))) := ht
       exact ⟨_, rfl, _, rfl, _, _, _, _, rfl, rfl, SqT.of ht, rfl, H0, q, dw, dr, v, j, _, _, rfl, ⟨k, due, rfl, rfl⟩, s0, wl, lo, dk, kk⟩
     | _ => exact absurd e (by simp only [To]; decide +kernel)
   cases d with
   | set due step name => exact absurd (decide_eq_true rfl) c0
   | pass t => exact absurd (decide_eq_true rfl) c1
   | move k due => exact absurd (decide_eq_true rfl) c2
   | back k due => exact absurd (decide_eq_true rfl) c3
   | rest k due => exact absurd (decide_eq_true rfl) c4
   | on k due =>
     replace ht : H td = some (.tup (Vd (.on k due))) := ht
     refine Yh (Zq (ZA G__law_on (hr.mono (by decide)) (by rfl) T.f__law_on T.kp__law_on T.B__law_on .nil ZE (Za (pv 0) (Za (ZD ZF (pv 1) Zf (fun _ _ => rfl)) Ze)))) ?_
     exact ⟨_, rfl, _, rfl, _, _, _, _, rfl, rfl, SqT.of ht, rfl, H0, q, dw, dr, v, j, _, _, rfl, ⟨k, due, rfl, rfl⟩, s0, wl, lo, dk, kk⟩
def spAsked (c : Cl) : Sp := fun vs H Q _ => ∃ (H0 : Hp) (p : Addr) (v : Vw) (j : Nat) (d : Deed) (td : Addr), vs = [.ref p, .ref td] ∧ BookAt c H0 H p v ∧ LOk j v ∧ j < 24 ∧ SY v d ∧ H0 td = some (.tup (Vd d)) ∧
 ∀ (H0' H' : Hp) (r : Ret) (v' : Vw) (x : V), Same H0 H0' → BookAt c H0' H' p v' → Does d v r v' → RetAt H0' r x → Q x H'
theorem sc__law_asked : FnScope ["_law_book", "_law_deed_here", "_law_kept", "_law_found", "e", "_law_kinds"] ["_law_book", "_law_deed_here"] (Zd Xa) := Zw
set_option maxHeartbeats 8000000 in
theorem Rn (T : Txt K mg a) : FnOk P w K mg base (CXe P w) 9 a.f__law_asked a.fd__law_asked ["_law_book", "_law_deed_here"] (spAsked (clOf a)) := by
 have G_set_alarm := Qo (P := P) (w := w) (base := base) T
 have G_pass_ticks := Ri (P := P) (w := w) (base := base) T
 have G_move := ok_move (P := P) (w := w) (base := base) T
 have G_take_back := Qn (P := P) (w := w) (base := base) T
 have G_rest := ok_rest (P := P) (w := w) (base := base) T
 have G_go_on := ok_go_on (P := P) (w := w) (base := base) T
 refine T.F__law_asked.okN sc__law_asked (fun vs H Q E h => ?_) (fun cdv A' outer s H vs Q E hr h => ?_)
 · obtain ⟨H0, p, v, j, d, td, rfl, _⟩ := h
   rfl
 · obtain ⟨H0, p, v, j, d, td, rfl, b, lo, hj, dk, ht0, kk⟩ := h
   have ht := b.same _ _ ht0
   have n2 := lo.next
   refine ⟨_, Ya, ?_⟩
   refine Zl (Zz (i := 2) sc__law_asked.nd rfl (Or.inl rfl) ZO) ?_
   refine Zl (Zz (i := 3) sc__law_asked.nd rfl (Or.inl rfl) ZO) ?_
   refine Zl (ps_try rfl rfl sc__law_asked.nd (j := 4) rfl rfl rfl T.c_TickError T.ct_TickError (YJ (Sy (Zo Xy (ZD ZF (pv 1) Zf (fun _ _ => rfl)) Zk (Zv _)) (YJ (UE (i := 3) sc__law_asked.nd rfl (Or.inl rfl) (UC G_set_alarm (hr.mono (by decide)) (by rfl) T.f_set_alarm T.kp_set_alarm T.B_set_alarm .nil (Za (pv 0) (Za (ZD ZF (pv 1) Zf (fun _ _ => rfl)) (Za (ZD ZF (pv 1) Zf (fun _ _ => rfl)) (Za (ZD ZF (pv 1) Zf (fun _ _ => rfl)) Ze))))))) (YJ (Sy (Zo Xy (ZD ZF (pv 1) Zf (fun _ _ => rfl)) Zk (Zv _)) (YJ (UE (i := 3) sc__law_asked.nd rfl (Or.inl rfl) (UC G_pass_ticks (hr.mono (by decide)) (by rfl) T.f_pass_ticks T.kp_pass_ticks T.B_pass_ticks .nil (Za (pv 0) (Za (ZD ZF (pv 1) Zf (fun _ _ => rfl)) Ze))))) (YJ (Sy (Zo Xy (ZD ZF (pv 1) Zf (fun _ _ => rfl)) Zk (Zv _)) (YJ (UE (i := 3) sc__law_asked.nd rfl (Or.inl rfl) (UC G_move (hr.mono (by decide)) (by rfl) T.f_move T.kp_move T.B_move .nil (Za (pv 0) (Za (ZD ZF (pv 1) Zf (fun _ _ => rfl)) (Za (ZD ZF (pv 1) Zf (fun _ _ => rfl)) Ze)))))) (YJ (Sy (Zo Xy (ZD ZF (pv 1) Zf (fun _ _ => rfl)) Zk (Zv _)) (YJ (UE (i := 3) sc__law_asked.nd rfl (Or.inl rfl) (UC G_take_back (hr.mono (by decide)) (by rfl) T.f_take_back T.kp_take_back T.B_take_back .nil (Za (pv 0) (Za (ZD ZF (pv 1) Zf (fun _ _ => rfl)) Ze))))) (YJ (Sy (Zo Xy (ZD ZF (pv 1) Zf (fun _ _ => rfl)) Zk (Zv _)) (YJ (UE (i := 3) sc__law_asked.nd rfl (Or.inl rfl) (UC G_rest (hr.mono (by decide)) (by rfl) T.f_rest T.kp_rest T.B_rest .nil (Za (pv 0) (Za (ZD ZF (pv 1) Zf (fun _ _ => rfl)) Ze))))) (YJ (UE (i := 3) sc__law_asked.nd rfl (Or.inl rfl) (UC G_go_on (hr.mono (by decide)) (by rfl) T.f_go_on T.kp_go_on T.B_go_on .nil (Za (pv 0) (Za (ZD ZF (pv 1) Zf (fun _ _ => rfl)) Ze))))))))))))))) (fun _ => (Zg (Zz (i := 2) sc__law_asked.nd rfl (Or.inl rfl) (pv 4))))) ?_
   refine tTry_by fun E' hE => ?_
   have IFN := True.intro
   have excPast : Does d v (.str "past") v → E' [some (.ref p), some (.ref td), some .non, some .non, none, none] (.ref a.C_Past) H := fun dd => by
     refine hE _ _ _ ⟨a.C_Past, rfl, T.sb_Past_TickError, fun ea hea => ?_⟩
     have be := b.up (Same.upd (o := excO ea (.ref a.C_Past)) hea)
     refine ⟨_, rfl, ?_⟩
     refine Zl (ZI (Zo XZ (pv 2) ZO (Zv _)) (Zg (Zq (pv 3))) Zy) ?_
     refine ⟨_, rfl, rfl, _, rfl, iteF ?_⟩
     refine Zl (Zz (i := 5) sc__law_asked.nd rfl (Or.inl rfl) (Yr (Za (ZL Xe (by rfl) T.b_isinstance boot_isinstance (Za (pv 2) (Za (VR T.c_Past) Ze))) (Za (ZL Xe (by rfl) T.b_isinstance boot_isinstance (Za (pv 2) (Za (VR T.c_NotThere) Ze))) (Za (ZL Xe (by rfl) T.b_isinstance boot_isinstance (Za (pv 2) (Za (VR T.c_BadWheels) Ze))) Ze))))) ?_
     refine ⟨_, rfl, _, _, _, _, _, rfl, Zb, T.ec_Past, rfl, T.kt_Past_Past, _, rfl, _, _, _, _, _, rfl, Zb, T.ec_Past, rfl, T.kt_Past_NotThere, _, rfl, _, _, _, _, _, rfl, Zb, T.ec_Past, rfl, T.kt_Past_BadWheels, (by show 3 ≤ sizeLine; decide), fun lk hlk => ?_⟩
     have hne : ea ≠ lk := fun z => by rw [← z, Zb] at hlk; cases hlk
     have be2 := be.up (Same.upd (o := .lst [.bl true, .bl false, .bl false]) hlk)
     refine Zl (ZI (Ue (Zo op_ne (VH F.plainAttrs_list F.slot_list_count F.type_list_count RG (pv 5) (Za UL Ze)) Zf (Zv _)) (VO (Sx (Vo (ZL Xe (by rfl) T.b_isinstance boot_isinstance (Za (pv 2) (Za (Ql T.b_ValueError boot_VE) Ze))) (fun _ => rfl))))).pt (Zg (Zq Zk)) Zy) ?_
     refine ⟨_, rfl, .inl ⟨rfl, _, SqL.of Zb⟩, lk, [true, false, false], rfl, rfl, SqL.of Zb, rfl, _, rfl, iteNS (by decide) ?_⟩
     refine ⟨_, rfl, _, _, _, _, _, rfl, (by rw [Zc hne]; exact Zb), T.ec_Past, rfl, T.kv_Past, _, rfl, iteF ?_⟩
     refine Yh (Zq (ZD Yo (Yr (Za Zk (Za Zk (Za Zk Ze)))) (VH F.plainAttrs_list F.slot_list_index F.type_list_index RF (pv 5) (Za UL Ze)) (fun _ _ => rfl))) ?_
     refine ⟨(by show 3 ≤ sizeLine; decide), fun l2 hl2 => ?_⟩
     have hn2 : lk ≠ l2 := fun z => by rw [← z, Zb] at hl2; cases hl2
     have hk2 : SqL K (upd (upd (upd H ea (excO ea (.ref a.C_Past))) lk (.lst [.bl true, .bl false, .bl false])) l2 (.lst [.str "past", .str "there", .str "wheels"])) lk ([true, false, false].map V.bl) := SqL.of (by rw [Zc hn2]; exact Zb)
     refine ⟨_, rfl, .inl ⟨rfl, _, hk2⟩, lk, [true, false, false], 0, rfl, rfl, hk2, (by decide), rfl, (by exact idx0), _, _, _, .str "past", rfl, rfl, SqL.of Zb, rfl, ?_⟩
     exact kk H0 _ _ v _ (Same.refl _) (be2.up (Same.upd hl2)) dd rfl
   have excNotThere : Does d v (.str "there") v → E' [some (.ref p), some (.ref td), some .non, some .non, none, none] (.ref a.C_NotThere) H := fun dd => by
     refine hE _ _ _ ⟨a.C_NotThere, rfl, T.sb_NotThere_TickError, fun ea hea => ?_⟩
     have be := b.up (Same.upd (o := excO ea (.ref a.C_NotThere)) hea)
     refine ⟨_, rfl, ?_⟩
     refine Zl (ZI (Zo XZ (pv 2) ZO (Zv _)) (Zg (Zq (pv 3))) Zy) ?_
     refine ⟨_, rfl, rfl, _, rfl, iteF ?_⟩
     refine Zl (Zz (i := 5) sc__law_asked.nd rfl (Or.inl rfl) (Yr (Za (ZL Xe (by rfl) T.b_isinstance boot_isinstance (Za (pv 2) (Za (VR T.c_Past) Ze))) (Za (ZL Xe (by rfl) T.b_isinstance boot_isinstance (Za (pv 2) (Za (VR T.c_NotThere) Ze))) (Za (ZL Xe (by rfl) T.b_isinstance boot_isinstance (Za (pv 2) (Za (VR T.c_BadWheels) Ze))) Ze))))) ?_
     refine ⟨_, rfl, _, _, _, _, _, rfl, Zb, T.ec_NotThere, rfl, T.kt_NotThere_Past, _, rfl, _, _, _, _, _, rfl, Zb, T.ec_NotThere, rfl, T.kt_NotThere_NotThere, _, rfl, _, _, _, _, _, rfl, Zb, T.ec_NotThere, rfl, T.kt_NotThere_BadWheels, (by show 3 ≤ sizeLine; decide), fun lk hlk => ?_⟩
     have hne : ea ≠ lk := fun z => by rw [← z, Zb] at hlk; cases hlk
     have be2 := be.up (Same.upd (o := .lst [.bl false, .bl true, .bl false]) hlk)
     refine Zl (ZI (Ue (Zo op_ne (VH F.plainAttrs_list F.slot_list_count F.type_list_count RG (pv 5) (Za UL Ze)) Zf (Zv _)) (VO (Sx (Vo (ZL Xe (by rfl) T.b_isinstance boot_isinstance (Za (pv 2) (Za (Ql T.b_ValueError boot_VE) Ze))) (fun _ => rfl))))).pt (Zg (Zq Zk)) Zy) ?_
     refine ⟨_, rfl, .inl ⟨rfl, _, SqL.of Zb⟩, lk, [false, true, false], rfl, rfl, SqL.of Zb, rfl, _, rfl, iteNS (by decide) ?_⟩
     refine ⟨_, rfl, _, _, _, _, _, rfl, (by rw [Zc hne]; exact Zb), T.ec_NotThere, rfl, T.kv_NotThere, _, rfl, iteF ?_⟩
     refine Yh (Zq (ZD Yo (Yr (Za Zk (Za Zk (Za Zk Ze)))) (VH F.plainAttrs_list F.slot_list_index F.type_list_index RF (pv 5) (Za UL Ze)) (fun _ _ => rfl))) ?_
     refine ⟨(by show 3 ≤ sizeLine; decide), fun l2 hl2 => ?_⟩
     have hn2 : lk ≠ l2 := fun z => by rw [← z, Zb] at hl2; cases hl2
     have hk2 : SqL K (upd (upd (upd H ea (excO ea (.ref a.C_NotThere))) lk (.lst [.bl false, .bl true, .bl false])) l2 (.lst [.str "past", .str "there", .str "wheels"])) lk ([false, true, false].map V.bl) := SqL.of (by rw [Zc hn2]; exact Zb)
     refine ⟨_, rfl, .inl ⟨rfl, _, hk2⟩, lk, [false, true, false], 1, rfl, rfl, hk2, (by decide), rfl, (by exact idx1), _, _, _, .str "there", rfl, rfl, SqL.of Zb, rfl, ?_⟩
     exact kk H0 _ _ v _ (Same.refl _) (be2.up (Same.upd hl2)) dd rfl
   cases d with
   | set due step name =>
     replace ht : H td = some (.tup (Vd (.set due step name))) := ht
     refine ⟨_, rfl, _, _, _, _, rfl, rfl, SqT.of ht, rfl, rfl, _, rfl, ?_⟩
     rw [decide_eq_true rfl]
     refine iteT ?_
     refine ⟨_, rfl, _, rfl, _, _, _, _, rfl, rfl, SqT.of ht, rfl, _, rfl, _, _, _, _, rfl, rfl, SqT.of ht, rfl, _, rfl, _, _, _, _, rfl, rfl, SqT.of ht, rfl, H0, p, v, name, due, step, rfl, b, dk.1, (fun s e => (dk.2.1 s e).2), (by omega), (fun c => excPast (.setNo c)), fun h1 h2 H1 b1 => Zl (ZI (Zo XZ (pv 2) ZO (Zv _)) (Zg (Zq (pv 3))) Zy) ⟨_, rfl, rfl, _, rfl, iteT ⟨_, rfl, kk H0 H1 _ _ _ (Same.refl _) b1 (.setOk h1 h2) rfl⟩⟩⟩
   | pass t =>
     replace ht : H td = some (.tup (Vd (.pass t))) := ht
     refine ⟨_, rfl, _, _, _, _, rfl, rfl, SqT.of ht, rfl, rfl, _, rfl, ?_⟩
     rw [decide_eq_false (YQ (by decide +kernel))]
     refine iteF ?_
     refine ⟨_, rfl, _, _, _, _, rfl, rfl, SqT.of ht, rfl, rfl, _, rfl, ?_⟩
     rw [decide_eq_true rfl]
     refine iteT ?_
     refine ⟨_, rfl, _, rfl, _, _, _, _, rfl, rfl, SqT.of ht, rfl, H0, p, v, t, rfl, b, dk.1, (fun c => excPast (.passNo c)), fun h0 => ⟨dk.2.2 h0, fun H2 H1 lr rs g sS hl rr b1 run => Zl (ZI (Zo XZ (pv 2) ZO (Zv _)) (Zg (Zq (pv 3))) Zy) ⟨_, rfl, rfl, _, rfl, iteT ⟨_, rfl, kk H1 H2 (.rings rs) _ _ sS b1 (.passOk h0 run) ⟨lr, rfl, rr⟩⟩⟩⟩⟩
   | move k due =>
     replace ht : H td = some (.tup (Vd (.move k due))) := ht
     refine ⟨_, rfl, _, _, _, _, rfl, rfl, SqT.of ht, rfl, rfl, _, rfl, ?_⟩
     rw [decide_eq_false (YQ (by decide +kernel))]
     refine iteF ?_
     refine ⟨_, rfl, _, _, _, _, rfl, rfl, SqT.of ht, rfl, rfl, _, rfl, ?_⟩
     rw [decide_eq_false (YQ (by decide +kernel))]
     refine iteF ?_
     refine ⟨_, rfl, _, _, _, _, rfl, rfl, SqT.of ht, rfl, rfl, _, rfl, ?_⟩
     rw [decide_eq_true rfl]
     refine iteT ?_
     refine ⟨_, rfl, _, rfl, _, _, _, _, rfl, rfl, SqT.of ht, rfl, _, rfl, _, _, _, _, rfl, rfl, SqT.of ht, rfl, H0, p, v, k, due, rfl, b, dk.1, dk.2, (fun e => excNotThere (.moveNo e)), (fun al e c => excPast (.moveNo2 e c)), fun al e c H1 b1 => Zl (ZI (Zo XZ (pv 2) ZO (Zv _)) (Zg (Zq (pv 3))) Zy) ⟨_, rfl, rfl, _, rfl, iteT ⟨_, rfl, kk H0 H1 .non _ _ (Same.refl _) b1 (.moveOk e c) rfl⟩⟩⟩
   | back k due =>
     replace ht : H td = some (.tup (Vd (.back k due))) := ht
     refine ⟨_, rfl, _, _, _, _, rfl, rfl, SqT.of ht, rfl, rfl, _, rfl, ?_⟩
     rw [decide_eq_false (YQ (by decide +kernel))]
     refine iteF ?_
     refine ⟨_, rfl, _, _, _, _, rfl, rfl, SqT.of ht, rfl, rfl, _, rfl, ?_⟩
     rw [decide_eq_false (YQ (by decide +kernel))]
     refine iteF ?_
     refine ⟨_, rfl, _, _, _, _, rfl, rfl, SqT.of ht, rfl, rfl, _, rfl, ?_⟩
     rw [decide_eq_false (YQ (by decide +kernel))]
     refine iteF ?_
     refine ⟨_, rfl, _, _, _, _, rfl, rfl, SqT.of ht, rfl, rfl, _, rfl, ?_⟩
     rw [decide_eq_true rfl]
     refine iteT ?_
     refine ⟨_, rfl, _, rfl, _, _, _, _, rfl, rfl, SqT.of ht, rfl, H0, p, v, k, rfl, b, dk, (fun e1 e2 => excNotThere (.backNo e1 e2)), (fun al e H1 b1 => Zl (ZI (Zo XZ (pv 2) ZO (Zv _)) (Zg (Zq (pv 3))) Zy) ⟨_, rfl, rfl, _, rfl, iteT ⟨_, rfl, kk H0 H1 (.str al.name) _ _ (Same.refl _) b1 (.backW e) rfl⟩⟩), fun al e1 e2 H1 b1 => Zl (ZI (Zo XZ (pv 2) ZO (Zv _)) (Zg (Zq (pv 3))) Zy) ⟨_, rfl, rfl, _, rfl, iteT ⟨_, rfl, kk H0 H1 (.str al.name) _ _ (Same.refl _) b1 (.backR e1 e2) rfl⟩⟩⟩
   | rest k due =>
     replace ht : H td = some (.tup (Vd (.rest k due))) := ht
     refine ⟨_, rfl, _, _, _, _, rfl, rfl, SqT.of ht, rfl, rfl, _, rfl, ?_⟩
     rw [decide_eq_false (YQ (by decide +kernel))]
     refine iteF ?_
     refine ⟨_, rfl, _, _, _, _, rfl, rfl, SqT.of ht, rfl, rfl, _, rfl, ?_⟩
     rw [decide_eq_false (YQ (by decide +kernel))]
     refine iteF ?_
     refine ⟨_, rfl, _, _, _, _, rfl, rfl, SqT.of ht, rfl, rfl, _, rfl, ?_⟩
     rw [decide_eq_false (YQ (by decide +kernel))]
     refine iteF ?_
     refine ⟨_, rfl, _, _, _, _, rfl, rfl, SqT.of ht, rfl, rfl, _, rfl, ?_⟩
     rw [decide_eq_false (YQ (by decide +kernel))]
     refine iteF ?_
     refine ⟨_, rfl, _, _, _, _, rfl, rfl, SqT.of ht, rfl, rfl, _, rfl, ?_⟩
     rw [decide_eq_true rfl]
     refine iteT ?_
     refine ⟨_, rfl, _, rfl, _, _, _, _, rfl, rfl, SqT.of ht, rfl, H0, p, v, k, rfl, b, dk, (fun e => excNotThere (.restNo e)), fun al e H1 b1 => Zl (ZI (Zo XZ (pv 2) ZO (Zv _)) (Zg (Zq (pv 3))) Zy) ⟨_, rfl, rfl, _, rfl, iteT ⟨_, rfl, kk H0 H1 .non _ _ (Same.refl _) b1 (.restOk e) rfl⟩⟩⟩
   | on k due =>
     replace ht : H td = some (.tup (Vd (.on k due))) := ht
     refine ⟨_, rfl, _, _, _, _, rfl, rfl, SqT.of ht, rfl, rfl, _, rfl, ?_⟩
     rw [decide_eq_false (YQ (by decide +kernel))]
     refine iteF ?_
     refine ⟨_, rfl, _, _, _, _, rfl, rfl, SqT.of ht, rfl, rfl, _, rfl, ?_⟩
     rw [decide_eq_false (YQ (by decide +kernel))]
     refine iteF ?_
     refine ⟨_, rfl, _, _, _, _, rfl, rfl, SqT.of ht, rfl, rfl, _, rfl, ?_⟩
     rw [decide_eq_false (YQ (by decide +kernel))]
     refine iteF ?_
     refine ⟨_, rfl, _, _, _, _, rfl, rfl, SqT.of ht, rfl, rfl, _, rfl, ?_⟩
     rw [decide_eq_false (YQ (by decide +kernel))]
     refine iteF ?_
     refine ⟨_, rfl, _, _, _, _, rfl, rfl, SqT.of ht, rfl, rfl, _, rfl, ?_⟩
     rw [decide_eq_false (YQ (by decide +kernel))]
     refine iteF ?_
     refine ⟨_, rfl, _, rfl, _, _, _, _, rfl, rfl, SqT.of ht, rfl, H0, p, v, k, rfl, b, dk, (fun e => excNotThere (.onNo e)), fun al e H1 b1 => Zl (ZI (Zo XZ (pv 2) ZO (Zv _)) (Zg (Zq (pv 3))) Zy) ⟨_, rfl, rfl, _, rfl, iteT ⟨_, rfl, kk H0 H1 .non _ _ (Same.refl _) b1 (.onOk e) rfl⟩⟩⟩
end Tk
end
section
namespace L2
open PySem PySem.Spec PyProof.Rows
def rAllT (K : W.Frag) : List V → Hp → VK → Prop := fun xs H Q => ∃ (a : Addr) (n : Nat), xs = [.ref a] ∧ SqL K H a (List.replicate n (.bl true)) ∧ Q (.bl true) H
theorem call_allT {X : Cx} (hc : X.calm = true) : VC X (.builtin "all") (rAllT X.K) := by
 intro pins s σ H xs us Q I r h
 obtain ⟨a, n, rfl, hq, k⟩ := h
 obtain ⟨u, rfl, ru⟩ := VZ r
 cases ru
 obtain ⟨its, rv, pl, hz⟩ := I.list hq
 have hl := pl.isList
 have hlt : a < s.heap.objs.size := by obtain ⟨_, e, _⟩ := hl; exact Heap.lt_size e
 have tr : ∀ v ∈ its, v = .bool true := fun v hv => by
   obtain ⟨i, hi⟩ := List.mem_iff_getElem?.mp hv
   have hl2 := rv.length
   rw [List.length_replicate] at hl2
   have hin : i < n := by have := (List.getElem?_eq_some_iff.mp hi).1; omega
   obtain ⟨w', h1, h2⟩ := rv.get (i := i) (x := V.bl true) (by simp [hin])
   rw [hi] at h1
   cases h1
   exact h2
 refine call_all_walk (wpAny_pyIter_list hl ?_)
 refine ⟨s.heap.objs.size, _, _, _, _, _, fun _ => true, rfl, Walks.list (prog := X.prog) (w := X.w) (A := X.A.in1) (I.ok.hd hc) s.heap.objs.size a (Nat.ne_of_lt hlt) its.toArray, ⟨⟨_, Heap.get?_push_size _ rfl, rfl, rfl⟩, ?_⟩, fun i v s' Q' E' hp hQ => ?_, fun h' tk kk => ?_⟩
 · obtain ⟨o, e, r⟩ := hl
   exact ⟨o, Heap.get?_push_of_some _ e, r⟩
 · have hp' : its.toArray[i]? = some v := hp
   rw [tr v (List.mem_of_getElem? (by simpa using hp'))]
   exact wpAny_truthy_bool hQ
 · refine ⟨.bl true, H, I.kept (fun b o e => kk b o (fun m => ?_) (Heap.get?_push_of_some _ e)), ?_, k⟩
   · have z := List.mem_singleton.mp m
     have q := Heap.lt_size e
     rw [z] at q
     exact Nat.lt_irrefl _ q
   · show Value.bool ((List.range _).all fun _ => true) = Value.bool true
     simp
end L2
namespace Tk
open PySem L2 Mir Rk Tb
open PyProof.Rows (boot_sorted boot_min boot_enumerate boot_isinstance boot_sum boot_max)
theorem wd_levels {v : Vw} {dw dr : Addr} : valV (wdV v dw dr) (Sum.inr "levels") = some (.int v.n) := by kernel_rfl
theorem WAt.gLevels {H : Hp} {q dw dr : Addr} {tw tr : TabA} {v : Vw} (w : WAt H q dw dr tw tr v) : DGet H q (.str "levels") (some (.int v.n)) := wd_levels (v := v) (dw := dw) (dr := dr) ▸ DGet.k (k := Sum.inr "levels") w.top
theorem RY {now t w : Int} (hw : 0 < w) : (now - now % w ≤ t ∧ t < now - now % w + w) ↔ now / w = t / w := by
 have h1 := Int.mul_ediv_add_emod now w
 have e : now - now % w = w * (now / w) := by omega
 rw [e]
 constructor
 · rintro ⟨a, b⟩
   have h2 := Int.mul_ediv_add_emod t w
   have h3 := Int.emod_nonneg t (Int.ne_of_gt hw)
   have h4 := Int.emod_lt_of_pos t hw
   rcases Int.lt_trichotomy (now / w) (t / w) with z | z | z
   · have : w * (now / w + 1) ≤ w * (t / w) := Int.mul_le_mul_of_nonneg_left (by omega) (by omega)
     rw [Int.mul_add] at this
     omega
   · exact z
   · have : w * (t / w + 1) ≤ w * (now / w) := Int.mul_le_mul_of_nonneg_left (by omega) (by omega)
     rw [Int.mul_add] at this
     omega
 · intro z
   rw [z]
   have h2 := Int.mul_ediv_add_emod t w
   have h3 := Int.emod_nonneg t (Int.ne_of_gt hw)
   have h4 := Int.emod_lt_of_pos t hw
   omega
theorem first_rest {now t w : Int} (h : now / w = t / w) : t - (now - now % w) = t % w := by
 have h1 := Int.mul_ediv_add_emod now w
 have h2 := Int.mul_ediv_add_emod t w
 rw [h] at h1
 omega
theorem Does.geo {d : Deed} {v v' : Vw} {r : Ret} (h : Does d v r v') : v'.n = v.n := by cases h <;> rfl
theorem BookAt.dis {c : Cl} {H0 H : Hp} {p : Addr} {v : Vw} (b : BookAt c H0 H p v) {k : Int} {al : Al Str} (h : v.rest k = some al) : v.wait k = none := by
 obtain ⟨A, sl, B, _, b, ok, e1, e2, e3, e4⟩ := b
 rw [← e4] at h
 have hk := (alarm_some.mp h).2.2
 rw [← e3]
 cases e : get B.ticks k with
 | none => unfold Tb.wait; rw [e]; rfl
 | some t => have := ok.out.dis k (by rw [e]; rfl); rw [hk] at this; cases this
section
variable {P : Program} {w : World} {K : W.Frag} {mg : Str → Option Value} {base : Heap} {a : Ad}
def spLWhere : Sp := fun vs H Q _ => ∃ (H0 : Hp) (q dw dr : Addr) (v : Vw) (j : Nat) (t : Int), vs = [.ref q, .int t] ∧ Same H0 H ∧ Wld H0 q dw dr v ∧ LOk j v ∧ v.n ≤ 6 ∧ (YT v t = none → Q .non H) ∧
 ∀ lvl slt, YT v t = some (lvl, slt) → ∀ tp, H tp = none → Q (.ref tp) (upd H tp (.tup [.int lvl, .int slt]))
theorem sc__law_where : FnScope ["_law_world", "_law_due", "_law_span", "_law_level", "_law_wide", "_law_first"] ["_law_world", "_law_due"] (Zd YY) := Zw
set_option maxHeartbeats 2000000 in
theorem Rl (T : Txt K mg a) : FnOk P w K mg base (CXe P w) 1 a.f__law_where a.fd__law_where ["_law_world", "_law_due"] spLWhere := by
 refine T.F__law_where.okN sc__law_where (fun vs H Q E h => ?_) (fun cdv A' outer s H vs Q E hr h => ?_)
 · obtain ⟨H0, q, dw, dr, v, j, t, rfl, _⟩ := h
   rfl
 · obtain ⟨H0, q, dw, dr, v, j, t, rfl, s0, ⟨tw, tr, w0⟩, lo, h6, k0, k1⟩ := h
   have hu := YL hr
   have w1 := w0.up s0
   obtain ⟨a1, a2⟩ := lo.sl
   have hS : 0 < v.S := by omega
   refine ⟨_, Ya, ?_⟩
   refine Zl (Zz (i := 2) sc__law_where.nd rfl (Or.inl rfl) Zf) ?_
   refine Zl (Vp PassesOwn.never rfl (VG rfl T.b_range (Za (Zs hu (pv 0) Zk (fun _ _ => rfl)) Ze)) (Yk (i := 3) sc__law_where.nd rfl (Or.inl rfl)) Ya) ?_
   refine ⟨_, rfl, _, _, rfl, w1.gLevels, _, rfl, (by omega), (by omega), ?_⟩
   refine Vk (lo := 0) (n := v.n) (fun i σ Hi => ∃ x3 x4 x5, σ = [some (.ref q), some (.int t), some (.int (v.S ^ i)), x3, x4, x5] ∧ Hi = H ∧ ∀ m, m < i → v.now / v.S ^ (m + 1) ≠ t / v.S ^ (m + 1)) ⟨none, none, none, by rw [Int.pow_zero]; rfl, rfl, fun m hm => by omega⟩ ?_ ?_
   · rintro i σ Hi hi ⟨x3, x4, x5, rfl, rfl, hno⟩
     obtain ⟨z1, z2⟩ := XR a1 a2 (i := i) (by omega)
     have z3 : 0 < v.S ^ i * v.S := Int.mul_pos z1 hS
     refine Zl (Zz (i := 4) sc__law_where.nd rfl (Or.inl rfl) (Zp Xj (pv 2) (Zs hu (pv 0) Zk (fun _ _ => rfl)))) ?_
     refine ⟨_, rfl, _, rfl, _, _, rfl, w1.gSlots, _, _, rfl, rfl, .inl ⟨by omega, Int.lt_of_le_of_lt z2 (by decide)⟩, ?_⟩
     refine Zl (Zz (i := 5) sc__law_where.nd rfl (Or.inl rfl) (Zp XY (Zs hu (pv 0) Zk (fun _ _ => rfl)) (Zp Yc (Zs hu (pv 0) Zk (fun _ _ => rfl)) (pv 4)))) ?_
     refine ⟨_, rfl, _, _, rfl, w1.gNow, _, rfl, _, _, rfl, w1.gNow, _, rfl, _, _, rfl, rfl, z3, _, _, rfl, rfl, ?_⟩
     refine Zl (ZI (pt_chain RC Um (pv 5) (pv 1) (Zp Yg (pv 5) (pv 4))) (Zg (Zq (Yq (Za (pv 3) (Za (Zp ZJ (Zp XY (pv 1) (pv 5)) (pv 2)) Ze))))) Zy) ?_
     have next : ¬ v.now / (v.S ^ i * v.S) = t / (v.S ^ i * v.S) → ∀ m, m < i + 1 → v.now / v.S ^ (m + 1) ≠ t / v.S ^ (m + 1) := fun hne m hm => by
       by_cases e : m = i
       · subst e
         rw [Int.pow_succ]
         exact hne
       · exact hno m (by omega)
     refine ⟨_, rfl, _, rfl, _, _, rfl, rfl, _, rfl, ite2 (fun c1 => ?_) (fun c1 => ?_)⟩
     · refine ⟨_, rfl, _, rfl, _, _, rfl, rfl, _, _, rfl, rfl, _, rfl, ite2 (fun c2 => ?_) (fun c2 => ?_)⟩
       · have e := (RY z3).mp ⟨of_decide_eq_true c1, of_decide_eq_true c2⟩
         have el : lv v.S v.n v.now t = i := lv_of (by omega) hno fun _ => by rw [Int.pow_succ]; exact e
         refine ⟨_, rfl, _, rfl, _, rfl, _, _, rfl, rfl, _, rfl, _, _, rfl, rfl, ⟨z1, Int.lt_of_le_of_lt z2 (by decide)⟩, (by show 2 ≤ sizeLine; decide), fun tp htp => ?_⟩
         have pl : YT v t = some ((i : Int), t % (v.S ^ i * v.S) / v.S ^ i) := by
           unfold YT
           refine place_some.mpr ⟨by omega, by omega, ?_⟩
           rw [el, Int.pow_succ]
         have := k1 _ _ pl tp htp
         rw [← first_rest e] at this
         have e0 : (0 : Int) + (i : Int) = i := Int.zero_add _
         show Q (.ref tp) (upd Hi tp (.tup [.int (0 + (i : Int)), .int ((t - (v.now - v.now % (v.S ^ i * v.S))) / v.S ^ i)]))
         rw [e0]
         exact this
       · refine Yh (Zz (i := 2) sc__law_where.nd rfl (Or.inl rfl) (pv 4)) ?_
         refine ⟨_, rfl, some (.int (0 + (i : Int))), some (.int (v.S ^ i * v.S)), some (.int (v.now - v.now % (v.S ^ i * v.S))), ?_, rfl, next fun e => ?_⟩
         · rw [Int.pow_succ]; rfl
         · exact c2 (decide_eq_true ((RY z3).mpr e).2)
     · refine ⟨_, rfl, iteF ?_⟩
       refine Yh (Zz (i := 2) sc__law_where.nd rfl (Or.inl rfl) (pv 4)) ?_
       refine ⟨_, rfl, some (.int (0 + (i : Int))), some (.int (v.S ^ i * v.S)), some (.int (v.now - v.now % (v.S ^ i * v.S))), ?_, rfl, next fun e => ?_⟩
       · rw [Int.pow_succ]; rfl
       · exact c1 (decide_eq_true ((RY z3).mpr e).1)
   · rintro σ Hi ⟨x3, x4, x5, rfl, rfl, hno⟩
     refine Yh (Zq ZO) (k0 ?_)
     unfold YT
     have el : lv v.S v.n v.now t = v.n := lv_of (Nat.le_refl _) hno fun z => by omega
     rw [Ug, if_neg (by omega)]
def spNone (c : Cl) : Sp := fun vs H Q _ => ∃ (H0 : Hp) (p : Addr) (v : Vw) (k : Int), vs = [.ref p, .int k] ∧ BookAt c H0 H p v ∧ Lg k ∧ v.wait k = none ∧ ∀ H', BookAt c H0 H' p v → Q (.bl true) H'
theorem sc__law_none : FnScope ["_law_book", "_law_number", "_law_kept", "e"] ["_law_book", "_law_number"] (Zd Xp) := Zw
theorem Qr (T : Txt K mg a) : FnOk P w K mg base (CXe P w) 3 a.f__law_none a.fd__law_none ["_law_book", "_law_number"] (spNone (clOf a)) := by
 have G_Book_where := UN (P := P) (w := w) (base := base) T
 refine T.F__law_none.okN sc__law_none (fun vs H Q E h => ?_) (fun cdv A' outer s H vs Q E hr h => ?_)
 · obtain ⟨H0, p, v, k, rfl, _⟩ := h
   rfl
 · obtain ⟨H0, p, v, k, rfl, b, hl, hw, kk⟩ := h
   obtain ⟨dx0, r0, x0, y0, u1, u2, u3, u4, hob⟩ := b.ob
   refine ⟨_, (Zh (Zz (i := 2) sc__law_none.nd rfl (Or.inl rfl) ZO)
     (Zh (ps_try rfl rfl sc__law_none.nd (j := 3) rfl rfl rfl T.c_TickError T.ct_TickError (YJ (psx_expr (px_meth (pv 0) T.cl_Book T.m_Book_where G_Book_where (hr.mono (by decide)) T.B_Book_where .nil (Za (pv 1) Ze)))) (fun _ => (Zg (Zz (i := 2) sc__law_none.nd rfl (Or.inl rfl) (pv 3)))))
     (Zg (Zq (ZL Xe (by rfl) T.b_isinstance boot_isinstance (Za (pv 2) (Za (VR T.c_NotThere) Ze))))))), ?_⟩
   refine ⟨_, rfl, _, _, _, rfl, hob, rfl, _, rfl, H0, p, v, k, rfl, b, hl, fun _ => ?_, fun al hal => ?_⟩
   · refine ⟨a.C_NotThere, rfl, T.sb_NotThere_TickError, fun ea hea => ?_⟩
     refine ⟨_, rfl, ?_⟩
     exact ⟨_, rfl, _, _, _, _, _, rfl, Zb, T.ec_NotThere, rfl, T.kt_NotThere_NotThere, kk _ (b.up (Same.upd hea))⟩
   · rw [hw] at hal
     cases hal
end
end Tk
end
section
namespace Tk
open PySem L2 Mir Rk Tb
open PyProof.Rows (boot_sorted boot_min boot_enumerate boot_isinstance boot_sum boot_max)
variable {P : Program} {w : World} {K : W.Frag} {mg : Str → Option Value} {base : Heap} {a : Ad}
def wk (v : Vw) (x : Int) : KO := (v.wait x).bind fun al => YT v al.tick
structure Lies (P : Program) (w : World) (He H : Hp) (d : Addr) (v : Vw) (ns : List Int) (ys : List MRow) : Prop where
 same : Same He H
 hd : He d = none
 new : ∀ y ∈ ys, He y.2.2 = none
 mix : H d = some (mixO P w d ys)
 tup : ∀ y ∈ ys, ∀ p, y.1 = some p → H y.2.1 = some (.tup [.int p.1, .int p.2]) ∧ hKO P w (some p) ≠ hKO P w none
 nd : (ys.map (·.1)).Nodup
 lst : ∀ y ∈ ys, H y.2.2 = some (.lst ((ns.filter fun x => decide (wk v x = y.1)).map V.int))
 ndl : (ys.map (·.2.2)).Nodup
 all : ∀ x ∈ ns, ∃ y ∈ ys, y.1 = wk v x
 len : ys.length ≤ ns.length
section
variable {P : Program} {w : World} {He H H' : Hp} {d l : Addr} {v : Vw} {ns : List Int} {ys : List MRow} {x : Int} {b : Addr}
theorem Lies.rows (L : Lies P w He H d v ns ys) (hn : ns.length ≤ 24) (s : Same H H') : RowsV P w H' ys := ⟨fun y hy p e => ⟨s _ _ (L.tup y hy p e).1, (L.tup y hy p e).2⟩, L.nd, by have := L.len; omega⟩
theorem SS {f : Int → Bool} (h : f x = true) : (ns ++ [x]).filter f = ns.filter f ++ [x] := by rw [List.filter_append]; simp [h]
theorem SR {f : Int → Bool} (h : f x = false) : (ns ++ [x]).filter f = ns.filter f := by rw [List.filter_append]; simp [h]
theorem Lies.up (L : Lies P w He H d v ns ys) (s : Same H H') : Lies P w He H' d v ns ys :=
 ⟨L.same.trans s, L.hd, L.new, s _ _ L.mix, fun y hy p e => ⟨s _ _ (L.tup y hy p e).1, (L.tup y hy p e).2⟩, L.nd, fun y hy => s _ _ (L.lst y hy), L.ndl, L.all, L.len⟩
theorem Lies.old (L : Lies P w He H d v ns ys) {y : MRow} (hy : y ∈ ys) (ek : y.1 = wk v x) :
   Lies P w He (upd H y.2.2 (.lst (((ns.filter fun x => decide (wk v x = y.1)).map V.int) ++ [.int x]))) d v (ns ++ [x]) ys := by
 have hl := L.lst y hy
 have nl : ∀ {z : Addr} {o : HO}, H z = some o → (∀ xs, o ≠ .lst xs) → upd H y.2.2 (.lst (((ns.filter fun x => decide (wk v x = y.1)).map V.int) ++ [.int x])) z = some o := fun {z o} hz hn => by
   rw [Zc (fun e => by rw [e, hl] at hz; cases hz; exact hn _ rfl)]
   exact hz
 refine ⟨fun z o hz => ?_, L.hd, L.new, nl L.mix (fun _ z => by cases z), fun z hz p e => ⟨nl (L.tup z hz p e).1 (fun _ z => by cases z), (L.tup z hz p e).2⟩, L.nd, fun z hz => ?_, L.ndl, fun u hu => ?_, by rw [List.length_append]; have := L.len; omega⟩
 · rw [Zc (Zn hz (L.new y hy))]
   exact L.same z o hz
 · by_cases e : z.2.2 = y.2.2
   · have ez : z = y := by
       obtain ⟨i, hi⟩ := List.mem_iff_getElem?.mp hz
       obtain ⟨j, hj⟩ := List.mem_iff_getElem?.mp hy
       have a1 : (ys.map (·.2.2))[i]? = some z.2.2 := by rw [List.getElem?_map, hi]; rfl
       have a2 : (ys.map (·.2.2))[j]? = some z.2.2 := by rw [List.getElem?_map, hj, e]; rfl
       have ij := (List.getElem?_inj (List.getElem?_eq_some_iff.mp a1).1 L.ndl).mp (a1.trans a2.symm)
       rw [ij, hj] at hi
       exact (Option.some.inj hi).symm
     subst ez
     rw [Zb, SS (by simp [ek]), List.map_append]
     rfl
   · have nk : z.1 ≠ y.1 := fun q => by
       obtain ⟨i, hi⟩ := List.mem_iff_getElem?.mp hz
       obtain ⟨j, hj⟩ := List.mem_iff_getElem?.mp hy
       have ij := one_row L.nd hi hj q
       rw [ij, hj] at hi
       exact e (by rw [Option.some.inj hi])
     rw [Zc e, SR (by rw [← ek]; exact decide_eq_false fun q => nk q.symm)]
     exact L.lst z hz
 · rcases List.mem_append.mp hu with hu | hu
   · exact L.all u hu
   · have : u = x := by simpa using hu
     exact ⟨y, hy, by rw [this]; exact ek⟩
theorem Lies.fresh (L : Lies P w He H d v ns ys) (hl : H l = none) (hk : ∀ p, wk v x = some p → H b = some (.tup [.int p.1, .int p.2]) ∧ hKO P w (some p) ≠ hKO P w none) (hn : ∀ y ∈ ys, y.1 ≠ wk v x) :
   Lies P w He (upd (upd (upd H l (.lst [])) d (mixO P w d (ys ++ [(wk v x, b, l)]))) l (.lst ([] ++ [.int x]))) d v (ns ++ [x]) (ys ++ [(wk v x, b, l)]) := by
 have dl : d ≠ l := fun z => by rw [← z, L.mix] at hl; cases hl
 have keep : ∀ {z : Addr} {o : HO}, H z = some o → z ≠ d → upd (upd (upd H l (.lst [])) d (mixO P w d (ys ++ [(wk v x, b, l)]))) l (.lst ([] ++ [.int x])) z = some o := fun {z o} hz hd => by
   rw [Zc (Zn hz hl), Zc hd, Zc (Zn hz hl)]
   exact hz
 have nd_ : ∀ {z : Addr} {xs : List V}, (H z = some (.lst xs) ∨ H z = some (.tup xs)) → z ≠ d := fun {z xs} hz e => by
   rcases hz with hz | hz
   · rw [e, L.mix] at hz; cases hz
   · rw [e, L.mix] at hz; cases hz
 have none_ : ∀ u ∈ ns, wk v u ≠ wk v x := fun u hu e => by
   obtain ⟨y, hy, ey⟩ := L.all u hu
   exact hn y hy (ey.trans e)
 refine ⟨fun z o hz => ?_, L.hd, fun y hy => ?_, by rw [Zc dl, Zb], fun y hy p e => ?_, ?_, fun y hy => ?_, ?_, fun u hu => ?_, by simp; have := L.len; omega⟩
 · have h1 := L.same z o hz
   exact keep h1 (Zn hz L.hd)
 · rcases List.mem_append.mp hy with hy | hy
   · exact L.new y hy
   · have : y = (wk v x, b, l) := by simpa using hy
     rw [this]
     exact L.same.free hl
 · rcases List.mem_append.mp hy with hy | hy
   · have h1 := (L.tup y hy p e).1
     exact ⟨keep h1 (nd_ (.inr h1)), (L.tup y hy p e).2⟩
   · have ey : y = (wk v x, b, l) := by simpa using hy
     rw [ey] at e ⊢
     obtain ⟨h1, h2⟩ := hk p e
     exact ⟨keep h1 (nd_ (.inr h1)), h2⟩
 · rw [List.map_append, List.nodup_append]
   refine ⟨L.nd, by simp, fun q hq r hr e => ?_⟩
   obtain ⟨y, hy, ey⟩ := List.mem_map.mp hq
   have er : r = wk v x := by simpa using hr
   exact hn y hy (ey.trans (e.trans er))
 · rcases List.mem_append.mp hy with hy | hy
   · have h1 := L.lst y hy
     rw [keep h1 (nd_ (.inl h1)), SR (decide_eq_false fun e => hn y hy e.symm)]
   · have ey : y = (wk v x, b, l) := by simpa using hy
     rw [ey, Zb, SS (by simp)]
     have : (ns.filter fun u => decide (wk v u = (wk v x, b, l).1)) = [] := List.filter_eq_nil_iff.mpr fun u hu => by simpa using none_ u hu
     rw [this]
     rfl
 · rw [List.map_append, List.nodup_append]
   refine ⟨L.ndl, by simp, fun q hq r hr e => ?_⟩
   obtain ⟨y, hy, ey⟩ := List.mem_map.mp hq
   have er : r = l := by simpa using hr
   have h1 := L.lst y hy
   rw [ey, e, er, hl] at h1
   cases h1
 · rcases List.mem_append.mp hu with hu | hu
   · obtain ⟨y, hy, ey⟩ := L.all u hu
     exact ⟨y, List.mem_append_left _ hy, ey⟩
   · have : u = x := by simpa using hu
     exact ⟨_, List.mem_append_right _ (List.mem_singleton.mpr rfl), by rw [this]⟩
end
theorem shT2 (x y : Int) : SeqAt.shaped (.tuple [.int x, .int y]) = true := by
 simp [SeqAt.shaped, PyData.canLay0, PyData.canLayAll0, PyData.depth, PyData.depthAll]
theorem shNo : SeqAt.shaped .none = true := by simp [SeqAt.shaped, PyData.canLay0, PyData.depth]
theorem tab_pairs (t : TabA) : tabV t = (t.map fun p => (p.1, V.ref p.2.1)).map fun p => (Sum.inl p.1, p.2) := by
 unfold tabV
 exact mapK_pairs (fun (x : Addr × Al Str) => V.ref x.1) t
theorem slot_same {v : Vw} {out o : List Int} {lvl slt : Int} (h1 : out.Pairwise (· < ·)) (h2 : ∀ x, x ∈ out ↔ (v.wait x).isSome = true) (h3 : o.Pairwise (· < ·)) (h4 : ∀ x, x ∈ o ↔ ∃ al, v.wait x = some al ∧ YT v al.tick = some (lvl, slt)) : o = out.filter fun x => decide (wk v x = some (lvl, slt)) := by
 refine srt_eq h3 (h1.sublist List.filter_sublist) fun x => ?_
 rw [h4 x, List.mem_filter, h2 x]
 unfold wk
 constructor
 · rintro ⟨al, e, hw⟩
   rw [e]
   exact ⟨rfl, by simpa using hw⟩
 · rintro ⟨hs, hw⟩
   obtain ⟨al, e⟩ := Option.isSome_iff_exists.mp hs
   rw [e] at hw
   exact ⟨al, e, by simpa using hw⟩
theorem Tr {v : Vw} {o : List Int} {lvl slt : Int} (hS : 0 < v.S) (h : ¬ ((0 ≤ lvl ∧ lvl < v.n) ∧ 0 ≤ slt ∧ slt < v.S)) (h4 : ∀ x, x ∈ o ↔ ∃ al, v.wait x = some al ∧ YT v al.tick = some (lvl, slt)) : o = [] :=
 List.eq_nil_iff_forall_not_mem.mpr fun x hx => by
   obtain ⟨al, _, hw⟩ := (h4 x).mp hx
   exact h (Uh hS hw)
def spLies (c : Cl) : Sp := fun vs H Q _ => ∃ (H0 : Hp) (p q dw dr : Addr) (v : Vw) (j : Nat), vs = [.ref p, .ref q] ∧ BookAt c H0 H p v ∧ Wld H0 q dw dr v ∧ LOk j v ∧ v.n ≤ 6 ∧ ∀ H0' H', Same H0 H0' → BookAt c H0' H' p v → Q (.bl true) H'
theorem sc__law_lies : FnScope ["_law_book", "_law_world", "_law_slots", "_law_number", "_law_due", "_law_found", "_law_level", "_law_slot"] ["_law_book", "_law_world"] (Zd Xr) := Zw
set_option maxHeartbeats 8000000 in
theorem Qt (T : Txt K mg a) : FnOk P w K mg base (CXe P w) 4 a.f__law_lies a.fd__law_lies ["_law_book", "_law_world"] (spLies (clOf a)) := by
 have G__law_where := Rl (P := P) (w := w) (base := base) T
 have G_Book_where := UN (P := P) (w := w) (base := base) T
 have G_Book_lying := Ro (P := P) (w := w) (base := base) T
 refine T.F__law_lies.okN sc__law_lies (fun vs H Q E h => ?_) (fun cdv A' outer s H vs Q E hr h => ?_)
 · obtain ⟨H0, p, q, dw, dr, v, j, rfl, _⟩ := h
   rfl
 · obtain ⟨H0, p, q, dw, dr, v, j, rfl, b, ⟨tw, tr, w0⟩, lo, h6, kk⟩ := h
   have hu := YL hr
   have n2 := lo.next
   have n3 := lo.j24
   have lns := w0.lens lo
   have hS : 0 < v.S := by have := lo.sl; omega
   have hS64 := lo.sl.2
   refine ⟨_, Ya, ?_⟩
   refine Zl (Zz (i := 2) sc__law_lies.nd rfl (Or.inl rfl) pe_dnewM) ?_
   intro d hd
   have b1 := b.out (x := d) (o := mixO P w d []) (.inl hd)
   have hd0 := b.same.free hd
   have w01 := w0.up (Same.upd (o := mixO P w d []) hd0)
   have w1 := w01.up b1.same
   refine Zl (Vp PassesOwn.never rfl (Sa (ZL (VY rfl) (by rfl) T.b_sorted boot_sorted (Za (Zs hu (pv 1) Zk (fun _ _ => rfl)) Ze))) (Yk (i := 3) sc__law_lies.nd rfl (Or.inl rfl)) Ya) ?_
   refine ⟨_, rfl, _, _, rfl, w1.gWaits, dw, _, rfl, (by rw [← tab_pairs]; exact w1.wts), (by rw [List.length_map]; omega), fun out hp2 hs2 ls hls => ?_⟩
   have ek : (tw.map fun p => (p.1, V.ref p.2.1)).map (·.1) = keys tw := by rw [List.map_map]; rfl
   rw [ek] at hp2
   obtain ⟨ho1, ho2⟩ := Uc hp2 hs2 w0.ndw
   have ho3 : ∀ x, x ∈ out ↔ (v.wait x).isSome = true := fun x => by
     rw [ho2 x, keys_some, ← w0.ew]
     show _ ↔ ((get tw x).map (·.2)).isSome = true
     cases get tw x <;> simp
   have lno : out.length ≤ 24 := by
     have := hp2.length_eq
     simp [keys] at this
     omega
   refine ⟨_, rfl, ⟨_, SqL.of Zb⟩, ?_⟩
   have b2 := b1.out (x := ls) (o := .lst (out.map V.int)) (.inl hls)
   have dls : d ≠ ls := fun z => by rw [← z, Zb] at hls; cases hls
   have hls0 : H0 ls = none := by
     have h1 : H ls = none := by rw [Zc dls.symm] at hls; exact hls
     exact b.same.free h1
   have L0 : Lies P w (upd H0 ls (.lst (out.map V.int))) (upd (upd H0 d (mixO P w d [])) ls (.lst (out.map V.int))) d v [] [] := by
     refine ⟨fun y o e => ?_, by rw [Zc dls]; exact hd0, (fun y hy => by cases hy), by rw [Zc dls]; exact Zb, (fun y hy => by cases hy), List.nodup_nil, (fun y hy => by cases hy), List.nodup_nil, (fun x hx => by cases hx), Nat.le_refl _⟩
     by_cases z : y = ls
     · subst z; rw [Zb] at e ⊢; exact e
     · rw [Zc z] at e ⊢
       rw [Zc (Zn e hd0)]
       exact e
   have hls1 : (upd H0 ls (.lst (out.map V.int))) ls = some (.lst (out.map V.int)) := Zb
   have w0e := w0.up (Same.upd (o := .lst (out.map V.int)) hls0)
   have s0e : Same H0 (upd H0 ls (.lst (out.map V.int))) := Same.upd hls0
   generalize upd H0 ls (.lst (out.map V.int)) = He at L0 hls1 w0e s0e
   generalize upd (upd H0 d (mixO P w d [])) ls (.lst (out.map V.int)) = H02 at L0 b2
   refine SN (K := K) (a := ls) (xs := out.map V.int) (fun i σ Hi => ∃ H0i ys x3 x4 x5, σ = [some (.ref p), some (.ref q), some (.ref d), x3, x4, x5, none, none] ∧ BookAt (clOf a) H0i Hi p v ∧ Lies P w He H0i d v (out.take i) ys) ⟨H02, [], none, none, none, rfl, b2, L0⟩ (fun i σ Hi _ ⟨H0i, ys, _, _, _, _, bi, L⟩ => SqL.of (bi.same _ _ (L.same _ _ hls1))) ?_ ?_
   · rintro i xv σ Hi hxi ⟨H0i, ys, x3, x4, x5, rfl, bi, L⟩
     obtain ⟨x, hx, rfl⟩ : ∃ x, out[i]? = some x ∧ xv = V.int x := by
       rw [List.getElem?_map] at hxi
       cases e : out[i]? with
       | none => rw [e] at hxi; cases hxi
       | some y => rw [e] at hxi; exact ⟨y, rfl, (Option.some.inj hxi).symm⟩
     have tk1 : out.take (i + 1) = out.take i ++ [x] := by rw [List.take_add_one, hx]; rfl
     have lti : (out.take i).length ≤ 24 := by rw [List.length_take]; omega
     obtain ⟨al, hal⟩ := Option.isSome_iff_exists.mp ((ho3 x).mp (List.mem_of_getElem? hx))
     have ewk : wk v x = YT v al.tick := by unfold wk; rw [hal]; rfl
     have dm := (lo.wait x al hal).1
     have lgx : Lg x := VB (by omega) (by omega)
     have w0i := w0e.up L.same
     have wi := w0i.up bi.same
     obtain ⟨ax, hax, haxt⟩ := wi.getW hal
     have gx := wi.gW x
     rw [hax] at gx
     replace gx : DGet Hi dw (.int x) (some (.ref ax)) := gx
     refine Zl (Zz (i := 4) sc__law_lies.nd rfl (Or.inl rfl) (ZA G__law_where (hr.mono (by decide)) (by rfl) T.f__law_where T.kp__law_where T.B__law_where .nil ZE (Za (pv 1) (Za (ZD ZF (Zs hu (Zs hu (pv 1) Zk (fun _ _ => rfl)) (pv 3) (fun _ _ => rfl)) Zf (fun _ _ => rfl)) Ze)))) ?_
     refine ⟨_, rfl, _, rfl, _, _, rfl, wi.gWaits, _, rfl, _, _, rfl, gx, _, _, _, _, rfl, rfl, SqT.of haxt, rfl, ?_⟩
     refine ⟨H0i, q, dw, dr, v, j, al.tick, rfl, bi.same, ⟨tw, tr, w0i⟩, lo, h6, fun hno => ?_, fun lvl slt hso tp htp => ?_⟩
     · obtain ⟨dx5, r5, x5', y5, z1, z2, z3, z4, hob5⟩ := bi.ob
       refine Zl (Zz (i := 5) sc__law_lies.nd rfl (Or.inl rfl) (ZU (pv 0) T.cl_Book T.m_Book_where G_Book_where (hr.mono (by decide)) T.B_Book_where .nil ZE (Za (pv 3) Ze))) ?_
       refine ⟨_, rfl, _, _, _, rfl, hob5, rfl, _, rfl, H0i, p, v, x, rfl, bi, lgx, (fun z => by rw [hal] at z; cases z), fun al' hal' => ?_⟩
       rw [hal] at hal'
       cases hal'
       refine ⟨fun _ H3 b3 => ?_, (fun lvl slt z => by rw [hno] at z; cases z)⟩
       refine Zl (ZI (Ue (Zo (op_neD hr.units) (pv 5) (pv 4) (Zv _)) (VO (Tz (Zo Vv (pv 4) ZO (Zv _)) (UD (Sx (Vo (ZL call_isi (by rfl) T.b_isinstance boot_isinstance (Za (pv 5) (Za (Ql T.b_tuple PyProof.Rows.boot_tuple) Ze))) (fun _ => rfl))))).pt)).pt (Zg (Zq UL)) Zy) ?_
       refine ⟨_, rfl, _, rfl, .none, .none, .non, .non, shNo, shNo, _, rfl, ?_⟩
       rw [Vr shNo]
       refine iteF ⟨_, rfl, rfl, _, rfl, iteF (iteF ?_)⟩
       have L3 := L
       have kv : ∀ H', Same H3 H' → KeyV P w H' (wk v x) 0 .non := fun H' _ => by rw [ewk, hno]; exact rfl
       have kt : ∀ q, wk v x = some q → H0i 0 = some (.tup [.int q.1, .int q.2]) ∧ hKO P w (some q) ≠ hKO P w none := fun q z => by rw [ewk, hno] at z; cases z
       refine Yh (ZG (VH F.plainAttrs_list F.slot_list_append F.type_list_append Vj (pe_setd hu (pv 2) (pv 4) (Yr Ze) ⟨rfl, rfl, rfl, rfl⟩) (Za (pv 3) Ze))) ?_
       refine ⟨_, rfl, d, ys, rfl, b3.same _ _ L3.mix, _, rfl, by decide, fun l hl => ?_⟩
       have b5 := b3.out (x := l) (o := .lst []) (.inl hl)
       have hl0 := b3.same.free hl
       refine ⟨l, wk v x, 0, ys, rfl, b5.same _ _ ((Same.upd hl0) _ _ L3.mix), L3.rows lti ((Same.upd hl0).trans b5.same), kv _ (Same.upd hl), fun hn => ?_, fun y hy ey => ?_⟩
       · have dl : d ≠ l := fun z => by rw [← z, b3.same _ _ L3.mix] at hl; cases hl
         have b6 := b5.out (x := d) (o := mixO P w d (ys ++ [(wk v x, 0, l)])) (.inr ⟨_, by rw [Zc dl]; exact L3.mix⟩)
         have hlv : upd (upd H3 l (.lst [])) d (mixO P w d (ys ++ [(wk v x, 0, l)])) l = some (.lst []) := by rw [Zc dl.symm]; exact Zb
         refine ⟨.inl ⟨rfl, _, SqL.of hlv⟩, _, rfl, _, _, _, rfl, rfl, hlv, (by decide), ?_⟩
         have b7 := b6.out (x := l) (o := .lst ([] ++ [.int x])) (.inr ⟨_, by rw [Zc dl.symm]; exact Zb⟩)
         exact ⟨_, _, _, _, _, rfl, b7, tk1 ▸ L3.fresh hl0 kt hn⟩
       · have L4 := L3.up (Same.upd (o := .lst []) hl0)
         have hlv := b5.same _ _ (L4.lst y hy)
         refine ⟨.inl ⟨rfl, _, SqL.of hlv⟩, _, rfl, _, _, _, rfl, rfl, hlv, (by rw [List.length_map]; have h1 := List.length_filter_le (fun x => decide (wk v x = y.1)) (out.take i); have h2 : (100 : Nat) < sizeLine := (by decide); omega), ?_⟩
         have b7 := b5.out (x := y.2.2) (o := .lst (((List.filter (fun x => decide (wk v x = y.1)) (out.take i)).map V.int) ++ [.int x])) (.inr ⟨_, L4.lst y hy⟩)
         exact ⟨_, _, _, _, _, rfl, b7, tk1 ▸ L4.old hy ey⟩
     · have b3 := bi.out (x := tp) (o := .tup [.int lvl, .int slt]) (.inl htp)
       have L1 := L.up (Same.upd (o := .tup [.int lvl, .int slt]) (bi.same.free htp))
       have ht1 : upd H0i tp (.tup [.int lvl, .int slt]) tp = some (.tup [.int lvl, .int slt]) := Zb
       generalize upd H0i tp (.tup [.int lvl, .int slt]) = H01 at b3 L1 ht1
       generalize upd Hi tp (.tup [.int lvl, .int slt]) = H1 at b3 ⊢
       obtain ⟨dx5, r5, x5', y5, z1, z2, z3, z4, hob5⟩ := b3.ob
       refine Zl (Zz (i := 5) sc__law_lies.nd rfl (Or.inl rfl) (ZU (pv 0) T.cl_Book T.m_Book_where G_Book_where (hr.mono (by decide)) T.B_Book_where .nil ZE (Za (pv 3) Ze))) ?_
       refine ⟨_, rfl, _, _, _, rfl, hob5, rfl, _, rfl, H01, p, v, x, rfl, b3, lgx, (fun z => by rw [hal] at z; cases z), fun al' hal' => ?_⟩
       rw [hal] at hal'
       cases hal'
       refine ⟨(fun z => by rw [hso] at z; cases z), fun lvl' slt' z H3 t2 ht2 b4 => ?_⟩
       rw [hso] at z
       cases z
       have L3 := L1.up (Same.upd (o := .tup [.int lvl, .int slt]) ht2)
       have ht3 := Same.upd (o := .tup [.int lvl, .int slt]) ht2 _ _ ht1
       have ht4 : upd H01 t2 (.tup [.int lvl, .int slt]) t2 = some (.tup [.int lvl, .int slt]) := Zb
       generalize upd H01 t2 (.tup [.int lvl, .int slt]) = H03 at b4 L3 ht3 ht4
       have b3 := b4
       refine Zl (ZI (Ue (Zo (op_neD hr.units) (pv 5) (pv 4) (Zv _)) (VO (Tz (Zo Vv (pv 4) ZO (Zv _)) (UD (Sx (Vo (ZL call_isi (by rfl) T.b_isinstance boot_isinstance (Za (pv 5) (Za (Ql T.b_tuple PyProof.Rows.boot_tuple) Ze))) (fun _ => rfl))))).pt)).pt (Zg (Zq UL)) Zy) ?_
       refine ⟨_, rfl, _, rfl, _, _, .tup (SqT.of (b3.same _ _ ht4)) (.cons (.int _) (.cons (.int _) .nil)), .tup (SqT.of (b3.same _ _ ht3)) (.cons (.int _) (.cons (.int _) .nil)), shT2 _ _, shT2 _ _, _, rfl, ?_⟩
       rw [Vr (shT2 lvl slt)]
       refine iteF ⟨_, rfl, rfl, _, rfl, iteT ⟨_, rfl, _, _, _, _, _, rfl, .tup (b3.same _ _ ht4), rfl, Ut, _, rfl, iteF ?_⟩⟩
       have rg := Uh hS hso
       have hap : hKO P w (some (lvl, slt)) ≠ hKO P w none := by
         obtain ⟨m1, rfl⟩ : ∃ m1 : Nat, lvl = (m1 : Int) := ⟨lvl.toNat, by omega⟩
         obtain ⟨m2, rfl⟩ : ∃ m2 : Nat, slt = (m2 : Int) := ⟨slt.toNat, by omega⟩
         exact apart (by omega) (by omega)
       have kv : ∀ H', Same H3 H' → KeyV P w H' (wk v x) tp (.ref tp) := fun H' s' => by rw [ewk, hso]; exact ⟨rfl, s' _ _ (b3.same _ _ ht3), hap⟩
       have kt : ∀ q, wk v x = some q → H03 tp = some (.tup [.int q.1, .int q.2]) ∧ hKO P w (some q) ≠ hKO P w none := fun q z => by
         rw [ewk, hso] at z
         cases z
         exact ⟨ht3, hap⟩
       refine Yh (ZG (VH F.plainAttrs_list F.slot_list_append F.type_list_append Vj (pe_setd hu (pv 2) (pv 4) (Yr Ze) ⟨rfl, rfl, rfl, rfl⟩) (Za (pv 3) Ze))) ?_
       refine ⟨_, rfl, d, ys, rfl, b3.same _ _ L3.mix, _, rfl, by decide, fun l hl => ?_⟩
       have b5 := b3.out (x := l) (o := .lst []) (.inl hl)
       have hl0 := b3.same.free hl
       refine ⟨l, wk v x, tp, ys, rfl, b5.same _ _ ((Same.upd hl0) _ _ L3.mix), L3.rows lti ((Same.upd hl0).trans b5.same), kv _ (Same.upd hl), fun hn => ?_, fun y hy ey => ?_⟩
       · have dl : d ≠ l := fun z => by rw [← z, b3.same _ _ L3.mix] at hl; cases hl
         have b6 := b5.out (x := d) (o := mixO P w d (ys ++ [(wk v x, tp, l)])) (.inr ⟨_, by rw [Zc dl]; exact L3.mix⟩)
         have hlv : upd (upd H3 l (.lst [])) d (mixO P w d (ys ++ [(wk v x, tp, l)])) l = some (.lst []) := by rw [Zc dl.symm]; exact Zb
         refine ⟨.inl ⟨rfl, _, SqL.of hlv⟩, _, rfl, _, _, _, rfl, rfl, hlv, (by decide), ?_⟩
         have b7 := b6.out (x := l) (o := .lst ([] ++ [.int x])) (.inr ⟨_, by rw [Zc dl.symm]; exact Zb⟩)
         exact ⟨_, _, _, _, _, rfl, b7, tk1 ▸ L3.fresh hl0 kt hn⟩
       · have L4 := L3.up (Same.upd (o := .lst []) hl0)
         have hlv := b5.same _ _ (L4.lst y hy)
         refine ⟨.inl ⟨rfl, _, SqL.of hlv⟩, _, rfl, _, _, _, rfl, rfl, hlv, (by rw [List.length_map]; have h1 := List.length_filter_le (fun x => decide (wk v x = y.1)) (out.take i); have h2 : (100 : Nat) < sizeLine := (by decide); omega), ?_⟩
         have b7 := b5.out (x := y.2.2) (o := .lst (((List.filter (fun x => decide (wk v x = y.1)) (out.take i)).map V.int) ++ [.int x])) (.inr ⟨_, L4.lst y hy⟩)
         exact ⟨_, _, _, _, _, rfl, b7, tk1 ▸ L4.old hy ey⟩
   · rintro σ Hi ⟨H0i, ys, x3, x4, x5, rfl, bi, L⟩
     rw [List.length_map, List.take_length] at L
     have sw := w0e.up L.same
     refine Zl (Vp PassesOwn.never rfl (VG rfl T.b_range (Za (Zs hu (pv 1) Zk (fun _ _ => rfl)) Ze)) (Yk (i := 6) sc__law_lies.nd rfl (Or.inl rfl)) Ya) ?_
     refine ⟨_, rfl, _, _, rfl, (sw.up bi.same).gLevels, _, rfl, (by omega), (by omega), ?_⟩
     refine Vk (lo := 0) (n := v.n) (fun i σ Hj => ∃ H0j x6 x7, σ = [some (.ref p), some (.ref q), some (.ref d), x3, x4, x5, x6, x7] ∧ Same H0i H0j ∧ BookAt (clOf a) H0j Hj p v) ⟨H0i, none, none, rfl, Same.refl _, bi⟩ ?_ ?_
     · rintro i σ Hj hi ⟨H0j, x6, x7, rfl, sj, bj⟩
       refine Yh (Vp PassesOwn.never rfl (VG rfl T.b_range (Za (Zs hu (pv 1) Zk (fun _ _ => rfl)) Ze)) (Yk (i := 7) sc__law_lies.nd rfl (Or.inl rfl)) Ya) ?_
       refine ⟨_, rfl, _, _, rfl, ((sw.up sj).up bj.same).gSlots, _, rfl, (by omega), (by omega), ?_⟩
       refine Vk (lo := 0) (n := v.S.toNat) (fun m σ Hk => ∃ H0k x7, σ = [some (.ref p), some (.ref q), some (.ref d), x3, x4, x5, some (.int (0 + (i : Int))), x7] ∧ Same H0i H0k ∧ BookAt (clOf a) H0k Hk p v) ⟨H0j, _, rfl, sj, bj⟩ ?_ ?_
       · rintro m σ Hk hm ⟨H0k, x7, rfl, sk, bk⟩
         obtain ⟨dx5, r5, x5', y5, z1, z2, z3, z4, hob5⟩ := bk.ob
         refine Yh (ZI (Zo (op_neD hr.units) (ZU (pv 0) T.cl_Book T.m_Book_lying G_Book_lying (hr.mono (by decide)) T.B_Book_lying .nil ZE (Za (pv 6) (Za (pv 7) Ze))) (pe_getm hu (pv 2) (Yq (Za (pv 6) (Za (pv 7) Ze))) (Yr Ze) ⟨rfl, rfl, rfl, rfl⟩) (Zv _)) (Zg (Zq UL)) Zy) ?_
         refine ⟨_, rfl, _, _, _, rfl, hob5, rfl, _, rfl, _, rfl, H0k, p, v, _, _, rfl, bk, fun H1 l1 o1 hl1 b1 hs1 hm1 => ?_⟩
         have eo := slot_same ho1 ho3 hs1 hm1
         have L1 := (L.up sk).up (Same.upd (o := .lst (o1.map V.int)) hl1)
         have hl1v : upd H0k l1 (.lst (o1.map V.int)) l1 = some (.lst (o1.map V.int)) := Zb
         have sk1 := sk.trans (Same.upd (o := .lst (o1.map V.int)) hl1)
         generalize upd H0k l1 (.lst (o1.map V.int)) = H01 at b1 L1 hl1v sk1
         refine ⟨_, rfl, d, ys, rfl, b1.same _ _ L1.mix, _, rfl, _, rfl, (by show 2 ≤ sizeLine; decide), fun tp htp => ?_⟩
         have b2 := b1.out (x := tp) (o := .tup [.int (0 + (i : Int)), .int (0 + (m : Int))]) (.inl htp)
         refine ⟨by decide, fun l2 hl2 => ?_⟩
         have b3 := b2.out (x := l2) (o := .lst []) (.inl hl2)
         have s1 := (Same.upd (o := .tup [.int (0 + (i : Int)), .int (0 + (m : Int))]) (b1.same.free htp)).trans (Same.upd (o := .lst []) (b2.same.free hl2))
         have hap : hKO P w (some ((0 + (i : Int)), (0 + (m : Int)))) ≠ hKO P w none := by
           rw [Int.zero_add, Int.zero_add]
           exact apart (by omega) (by omega)
         have htv : upd (upd H1 tp (.tup [.int (0 + (i : Int)), .int (0 + (m : Int))])) l2 (.lst []) tp = some (.tup [.int (0 + (i : Int)), .int (0 + (m : Int))]) := by rw [Zc (fun z => by rw [← z, Zb] at hl2; cases hl2)]; exact Zb
         have lno' : ys.length ≤ 1000 := by have := L.len; omega
         refine ⟨some ((0 + (i : Int)), (0 + (m : Int))), tp, ys, b3.same _ _ (s1 _ _ L1.mix), L1.rows lno (s1.trans b3.same), ⟨rfl, htv, hap⟩, fun hn => ?_, fun y hy ey => ?_⟩
         · have e0 : o1 = [] := by
             rw [eo]
             refine List.filter_eq_nil_iff.mpr fun u hu' => ?_
             obtain ⟨y, hy, ey⟩ := L.all u hu'
             have : wk v u ≠ some (0 + (i : Int), 0 + (m : Int)) := fun z => hn y hy (ey.trans z)
             simpa using this
           refine ⟨_, _, Xf (ns := o1) (b3.same _ _ (s1 _ _ hl1v)), Xf (ns := []) Zb, ZM _, ZM _, _, rfl, ?_⟩
           rw [e0, show PyData.eqv (.list (([] : List Int).map PyData.int)) (.list (([] : List Int).map PyData.int)) = true from Vr (ZM [])]
           exact iteF ⟨_, _, rfl, sk1.trans s1, b3⟩
         · have hy2 := b3.same _ _ (s1 _ _ (L1.lst y hy))
           rw [ey, ← eo] at hy2
           refine ⟨_, _, Xf (ns := o1) (b3.same _ _ (s1 _ _ hl1v)), Xf (ns := o1) hy2, ZM _, ZM _, _, rfl, ?_⟩
           rw [show PyData.eqv (.list (o1.map PyData.int)) (.list (o1.map PyData.int)) = true from Vr (ZM _)]
           exact iteF ⟨_, _, rfl, sk1.trans s1, b3⟩
       · rintro σ Hk ⟨H0k, x7, rfl, sk, bk⟩
         exact ⟨H0k, _, _, rfl, sk, bk⟩
     · rintro σ Hj ⟨H0j, x6, x7, rfl, sj, bj⟩
       have wj := (sw.up sj).up bj.same
       obtain ⟨dx5, r5, x5', y5, z1, z2, z3, z4, hob5⟩ := bj.ob
       refine Yh (Zq (pe_and (Te (Qm hr.units) (ZU (pv 0) T.cl_Book T.m_Book_lying G_Book_lying (hr.mono (by decide)) T.B_Book_lying .nil ZE (Za (Zs hu (pv 1) Zk (fun _ _ => rfl)) (Za Zf Ze))) (Yr Ze) (Zv _)) (pe_and (Te (Qm hr.units) (ZU (pv 0) T.cl_Book T.m_Book_lying G_Book_lying (hr.mono (by decide)) T.B_Book_lying .nil ZE (Za Zf (Za (Zs hu (pv 1) Zk (fun _ _ => rfl)) Ze))) (Yr Ze) (Zv _)) (pe_one (Te (Qm hr.units) (ZU (pv 0) T.cl_Book T.m_Book_lying G_Book_lying (hr.mono (by decide)) T.B_Book_lying .nil ZE (Za (pe_un un_neg Zf) (Za Zf Ze))) (Yr Ze) (Zv _)))))) ?_
       refine ⟨_, rfl, _, _, _, rfl, hob5, rfl, _, rfl, _, _, rfl, wj.gLevels, H0j, p, v, _, _, rfl, bj, fun K0 k0 o0 hk0 c0 _ hm0 => ?_⟩
       obtain rfl : o0 = [] := Tr hS (fun z => by omega) hm0
       refine ⟨by decide, fun g0 hg0 => ?_⟩
       have d0 := c0.out (x := g0) (o := .lst []) (.inl hg0)
       have t0 := (Same.upd (o := .lst []) hk0).trans (Same.upd (o := .lst []) (c0.same.free hg0))
       have v0 := d0.same _ _ (Same.upd (o := .lst []) (c0.same.free hg0) _ _ (Zb (H := H0j) (a := k0) (o := .lst [])))
       refine ⟨_, _, Xf (ns := []) v0, Xf (ns := []) Zb, ZM [], ZM [], _, rfl, ?_⟩
       rw [show PyData.eqv (.list (([] : List Int).map PyData.int)) (.list (([] : List Int).map PyData.int)) = true from Vr (ZM [])]
       have wk0 := ((sw.up sj).up t0).up d0.same
       obtain ⟨dx6, r6, x6', y6, z5, z6, z7, z8, hob6⟩ := d0.ob
       refine iteT ⟨_, rfl, _, _, _, rfl, hob6, rfl, _, rfl, _, _, rfl, wk0.gSlots, _, p, v, _, _, rfl, d0, fun K1 k1 o1 hk1 c1 _ hm1 => ?_⟩
       obtain rfl : o1 = [] := Tr hS (fun z => by omega) hm1
       refine ⟨by decide, fun g1 hg1 => ?_⟩
       have d1 := c1.out (x := g1) (o := .lst []) (.inl hg1)
       have t1 := (Same.upd (o := .lst []) hk1).trans (Same.upd (o := .lst []) (c1.same.free hg1))
       have v1 := d1.same _ _ (Same.upd (o := .lst []) (c1.same.free hg1) _ _ (Zb (H := _) (a := k1) (o := .lst [])))
       refine ⟨_, _, Xf (ns := []) v1, Xf (ns := []) Zb, ZM [], ZM [], _, rfl, ?_⟩
       rw [show PyData.eqv (.list (([] : List Int).map PyData.int)) (.list (([] : List Int).map PyData.int)) = true from Vr (ZM [])]
       obtain ⟨dx7, r7, x7', y7, z9, z10, z11, z12, hob7⟩ := d1.ob
       refine iteT ⟨_, rfl, _, _, _, rfl, hob7, rfl, _, rfl, _, p, v, _, _, rfl, d1, fun K2 k2 o2 hk2 c2 _ hm2 => ?_⟩
       obtain rfl : o2 = [] := Tr hS (fun z => by omega) hm2
       refine ⟨by decide, fun g2 hg2 => ?_⟩
       have d2 := c2.out (x := g2) (o := .lst []) (.inl hg2)
       have t2 := (Same.upd (o := .lst []) hk2).trans (Same.upd (o := .lst []) (c2.same.free hg2))
       have v2 := d2.same _ _ (Same.upd (o := .lst []) (c2.same.free hg2) _ _ (Zb (H := _) (a := k2) (o := .lst [])))
       refine ⟨_, _, Xf (ns := []) v2, Xf (ns := []) Zb, ZM [], ZM [], ?_⟩
       rw [show PyData.eqv (.list (([] : List Int).map PyData.int)) (.list (([] : List Int).map PyData.int)) = true from Vr (ZM [])]
       exact kk _ _ ((s0e.trans L.same).trans (sj.trans (t0.trans (t1.trans t2)))) d2
theorem boot_all : bootBuiltins "all" = some (.builtin "all") := by decide +kernel
theorem Fr.tup {H0 H H0' H' : Hp} {q dw dr y : Addr} {v : Vw} {xs : List V} (f : Fr [q, dw, dr] H0 H H0' H') (w : Wld H0 q dw dr v) (h : H0 y = some (.tup xs)) : H0' y = some (.tup xs) := by
 obtain ⟨tw, tr, w⟩ := w
 refine f.keep y _ (fun z => ?_) h
 simp only [List.mem_cons, List.not_mem_nil, or_false] at z
 rcases z with z | z | z
 · rw [z, w.top] at h; cases h
 · rw [z, w.wts] at h; cases h
 · rw [z, w.rts] at h; cases h
theorem not_wrong {r : Ret} (h : RetOk r) : PyData.eqv (retD r) (.str "wrong") = false := by
 cases r with
 | int i => simp [retD, PyData.eqv]
 | str x =>
   have h' : x ≠ "wrong" := h.2
   simp [retD, PyData.eqv, h']
 | non => simp [retD, PyData.eqv]
 | rings rs => simp [retD, PyData.eqv]
theorem okWrong : SeqAt.shaped (.str "wrong") = true := by
 have h : PyData.strOk ("wrong" : Str) = true := by decide +kernel
 simp [SeqAt.shaped, PyData.canLay0, PyData.depth, h]
def spLaw (K : W.Frag) : Sp := fun vs H Q _ => ∃ (l : Addr) (ns : List Int), vs = [.ref l] ∧ SqL K H l (ns.map V.int) ∧ ns.length ≤ 63 ∧ ∀ H', Q (.bl true) H'
theorem sc_law : FnScope ["_law_script", "_law_slots", "_law_levels", "_law_book", "_law_world", "_law_k", "_law_deed_here"] ["_law_script"] (Zd Rx) := Zw
set_option maxHeartbeats 8000000 in
theorem ok_law (T : Txt K mg a) : FnOk P w K mg base (CXe P w) 12 a.f_law a.fd_law ["_law_script"] (spLaw K) := by
 have G__law_mix := Vx (P := P) (w := w) (base := base) T
 have G__law_wheels := SD (P := P) (w := w) (base := base) T
 have G_Book := QB (P := P) (w := w) (base := base) T
 have G__law_new := ok__law_new (P := P) (w := w) (base := base) T
 have G__law_deed := Qv (P := P) (w := w) (base := base) T
 have G__law_done := Qu (P := P) (w := w) (base := base) T
 have G__law_asked := Rn (P := P) (w := w) (base := base) T
 have G__law_lies := Qt (P := P) (w := w) (base := base) T
 have G__law_none := Qr (P := P) (w := w) (base := base) T
 refine T.F_law.okN sc_law (fun vs H Q E h => ?_) (fun cdv A' outer s H vs Q E hr h => ?_)
 · obtain ⟨l, ns, rfl, _⟩ := h
   rfl
 · obtain ⟨l, ns, rfl, hl, hlen, k⟩ := h
   have hu := YL hr
   refine ⟨_, Ya, ?_⟩
   refine Zl (ps_asg (ZA G__law_wheels (hr.mono (by decide)) (by rfl) T.f__law_wheels T.kp__law_wheels T.B__law_wheels .nil ZE (Za (pv 0) (Za Zf Ze))) (Qj rfl (Xz (Yk (i := 1) sc_law.nd rfl (Or.inl rfl)) (Xz (Yk (i := 2) sc_law.nd rfl (Or.inl rfl)) Sc)))) ?_
   refine ⟨_, rfl, l, ns, _, rfl, hl, fun S n H1 p1 hS hn s1 hp1 => ?_⟩
   refine ⟨_, _, rfl, SqT.of hp1, rfl, _, _, rfl, _, _, rfl, rfl, ?_⟩
   refine Zl (Zz (i := 3) sc_law.nd rfl (Or.inr rfl) (Sd T.M_Book G_Book (hr.mono (by decide)) rfl T.c_Book T.B_Book___init__ .nil ZE (Za (pv 1) (Za (pv 2) Ze)))) ?_
   refine ⟨_, rfl, _, rfl, fun x dx hx hdx nx => ?_⟩
   have sA : Same H1 (upd (upd H1 dx (.own x)) x (.ins a.C_Book dx [])) := fun b o e => by
     rw [Zc (Zn e hx), Zc (Zn e hdx)]
     exact e
   have gw : Tm S n := ⟨hS, by omega, by omega⟩
   refine ⟨H1, x, dx, S, n, rfl, VB (by omega) (by omega), VB (by omega) (by omega), sA, hx, Zb, (fun z => absurd gw z), fun _ H2 b => ⟨rfl, ?_⟩⟩
   replace b : BookAt (clOf a) H1 H2 x (newV S n) := by
     have e : ((n : Int)).toNat = n := Int.toNat_natCast n
     rw [e] at b
     exact b
   refine Zl (Zz (i := 4) sc_law.nd rfl (Or.inl rfl) (ZA G__law_new (hr.mono (by decide)) (by rfl) T.f__law_new T.kp__law_new T.B__law_new .nil ZE (Za (pv 1) (Za (pv 2) Ze)))) ?_
   refine ⟨_, rfl, _, rfl, S, n, rfl, fun q dw dr hq hdw hdr => ?_⟩
   have nqw : q ≠ dw := fun z => by rw [← z, Zb] at hdw; cases hdw
   have nwr : dw ≠ dr := fun z => by rw [← z, Zb] at hdr; cases hdr
   have nqr : q ≠ dr := fun z => by rw [← z, Zc nqw, Zb] at hdr; cases hdr
   have hw2 : H2 dw = none := by rw [Zc nqw.symm] at hdw; exact hdw
   have hr2 : H2 dr = none := by rw [Zc nwr.symm, Zc nqr.symm] at hdr; exact hdr
   have hq1 := b.same.free hq
   have hw1 := b.same.free hw2
   have hr1 := b.same.free hr2
   have b3 := (((b.out (o := .dK []) (.inl hq)).out (o := .dK []) (.inl hdw)).out (o := .dK []) (.inl hdr)).out (x := q) (o := .dK (wdV (newV S n) dw dr)) (.inr ⟨.dK [], by rw [Zc nqr, Zc nqw]; exact Zb⟩)
   have w3 : WAt (upd (upd (upd (upd H1 q (.dK [])) dw (.dK [])) dr (.dK [])) q (.dK (wdV (newV S n) dw dr))) q dw dr [] [] (newV S n) :=
     ⟨Zb, by rw [Zc nqw.symm, Zc nwr]; exact Zb, by rw [Zc nqr.symm]; exact Zb, (fun p hp => by cases hp), (fun p hp => by cases hp), nqw, nqr, nwr, List.nodup_nil, List.nodup_nil, rfl, rfl⟩
   have s3 : Same H (upd (upd (upd (upd H1 q (.dK [])) dw (.dK [])) dr (.dK [])) q (.dK (wdV (newV S n) dw dr))) := fun y o e => by
     have e1 := s1 y o e
     rw [Zc (Zn e1 hq1), Zc (Zn e1 hr1), Zc (Zn e1 hw1), Zc (Zn e1 hq1)]
     exact e1
   have hqE := s1.free hq1
   have hwE := s1.free hw1
   have hrE := s1.free hr1
   have lo0 : LOk 0 (newV S n) := ⟨by decide, hS, ⟨Int.le_refl _, by show (0 : Int) ≤ _; decide⟩, ⟨Int.le_refl _, by show (0 : Int) ≤ _; decide⟩, (fun k a e => by cases e), (fun k a e => by cases e)⟩
   generalize upd (upd (upd (upd H1 q (.dK [])) dw (.dK [])) dr (.dK [])) q (.dK (wdV (newV S n) dw dr)) = H03 at b3 w3 s3
   generalize upd (upd (upd (upd H2 q (.dK [])) dw (.dK [])) dr (.dK [])) q (.dK (wdV (newV S n) dw dr)) = H3 at *
   refine Zl (Vp PassesOwn.never rfl (VG rfl T.b_range (Za (Zp Yc (ZA G__law_mix (hr.mono (by decide)) (by rfl) T.f__law_mix T.kp__law_mix T.B__law_mix .nil ZE (Za (pv 0) (Za Zf Ze))) Zf) Ze)) (Yk (i := 5) sc_law.nd rfl (Or.inl rfl)) Ya) ?_
   refine ⟨_, rfl, l, ns, _, rfl, (s3.trans b3.same).seq hl, fun m g0 g1 => ?_⟩
   have e3 := Int.emod_nonneg m (b := 17) (by omega)
   have e4 := Int.emod_lt_of_pos m (b := 17) (by omega)
   refine ⟨_, _, rfl, rfl, (by show (0 : Int) < 17; decide), _, rfl, (by omega), (by omega), ?_⟩
   refine Vk (lo := 0) (n := (m % 17).toNat) (fun i σ Hi => ∃ H0i v x5 x6, σ = [some (.ref l), some (.int S), some (.int n), some (.ref x), some (.ref q), x5, x6] ∧ Same H H0i ∧ BookAt (clOf a) H0i Hi x v ∧ Wld H0i q dw dr v ∧ LOk i v ∧ v.n ≤ 6) ⟨H03, newV S n, none, none, rfl, s3, b3, ⟨[], [], w3⟩, lo0, hn.2⟩ ?_ ?_
   · rintro i σ Hi hi ⟨H0i, v, x5, x6, rfl, sH, bi, wi, lo, h6⟩
     have hi24 : i < 24 := by omega
     refine Zl (Zz (i := 6) sc_law.nd rfl (Or.inl rfl) (ZA G__law_deed (hr.mono (by decide)) (by rfl) T.f__law_deed T.kp__law_deed T.B__law_deed .nil ZE (Za (pv 0) (Za (Zp Yg Zf (Zp Xj Zf (pv 5))) (Za (pv 4) Ze))))) ?_
     refine ⟨_, rfl, _, rfl, _, _, rfl, rfl, .inl ⟨by decide, by decide⟩, _, _, rfl, rfl, _, rfl, H0i, l, ns, _, q, dw, dr, v, i, rfl, (sH.trans bi.same).seq hl, bi.same, wi, lo, fun H0a Ha td d fa htd dk => ?_⟩
     have ba := bi.fr fa
     have wa := wi.up fa.grow
     have sHa := sH.trans fa.grow
     refine Zl (ZG (ZA G__law_done (hr.mono (by decide)) (by rfl) T.f__law_done T.kp__law_done T.B__law_done .nil ZE (Za (pv 4) (Za (pv 6) Ze)))) ?_
     refine ⟨_, rfl, _, rfl, H0a, q, dw, dr, v, i, d, td, rfl, ba.same, wa, lo, dk, htd, fun H0b Hb r v' y fb wb db rb => ?_⟩
     have bb := ba.fr fb
     have htb := fb.tup wa htd
     obtain ⟨lo', rok⟩ := lo.does hi24 dk db ⟨by decide +kernel, by decide +kernel⟩ ⟨by decide +kernel, by decide +kernel⟩
     have sHb : Same H H0b := fun z o e => fb.keep z o (fun hz => by
       simp only [List.mem_cons, List.not_mem_nil, or_false] at hz
       rcases hz with hz | hz | hz
       · rw [hz, hqE] at e; cases e
       · rw [hz, hwE] at e; cases e
       · rw [hz, hrE] at e; cases e) (sHa z o e)
     refine Yh (ZI (Ue (Zo (Qm hr.units) (ZA G__law_asked (hr.mono (by decide)) (by rfl) T.f__law_asked T.kp__law_asked T.B__law_asked .nil ZE (Za (pv 3) (Za (pv 6) Ze))) Zk (Zv _)) (VO (Sx (Vo (ZA G__law_lies (hr.mono (by decide)) (by rfl) T.f__law_lies T.kp__law_lies T.B__law_lies .nil ZE (Za (pv 3) (Za (pv 4) Ze))) (fun _ => rfl))))).pt (Zg (Zq UL)) Zy) ?_
     refine ⟨_, rfl, _, rfl, H0b, x, v, i, d, td, rfl, bb, lo, hi24, dk, htb, fun H0c Hc r' v'' y' sc bc dc rc => ?_⟩
     obtain ⟨er, ev⟩ := db.unique dc
     subst er ev
     refine ⟨_, _, (rc.up bc.same).den, .str _, shaped_ret rok, okWrong, _, rfl, ?_⟩
     rw [not_wrong rok]
     refine iteF ?_
     have h6' : v'.n ≤ 6 := by rw [dc.geo]; exact h6
     refine ⟨_, rfl, _, rfl, H0c, x, q, dw, dr, v', i + 1, rfl, bc, wb.up sc, lo', h6', fun H0d Hd sd bd => ?_⟩
     exact ⟨_, rfl, iteF ⟨H0d, v', _, _, rfl, (sHb.trans sc).trans sd, bd, (wb.up sc).up sd, lo', h6'⟩⟩
   · rintro σ Hi ⟨H0i, v, x5, x6, rfl, sH, bi, ⟨tw, tr, wi⟩, lo, h6⟩
     have hno : v.wait 500 = none := by
       cases e : v.wait 500 with
       | none => rfl
       | some al =>
         have h1 := (lo.wait 500 al e).1
         have h2 := lo.next
         have h3 := lo.j24
         omega
     refine Yh (Zq (pe_and (ZA G__law_none (hr.mono (by decide)) (by rfl) T.f__law_none T.kp__law_none T.B__law_none .nil ZE (Za (pv 3) (Za Zf Ze))) (pe_one (ZL (call_allT rfl) (by rfl) T.b_all boot_all (Za (pe_thaw (SC (te := tCall (spNone (clOf a)) [] E0 (Rt (tVar 1) (Rt (tVar 0) tNil))) (NB := ["_law_number", "_law_book"]) (fv := [none, some 3]) (jx := 0) rfl (VM rfl rfl (by decide +kernel)) (Sb (Zs hu (pv 4) Zk (fun _ _ => rfl))) rfl rfl rfl (fun _ _ _ => Ui) (fun _ _ _ => (ZA G__law_none (hr.mono (by decide)) (by rfl) T.f__law_none T.kp__law_none T.B__law_none .nil ZE (Za (pv 1) (Za (pv 0) Ze)))))) Ze))))) ?_
     refine ⟨_, rfl, H0i, x, v, 500, rfl, bi, VB (by decide) (by decide), hno, fun H1 b1 => ⟨_, rfl, iteT ?_⟩⟩
     have w1 := wi.up b1.same
     refine ⟨_, rfl, _, _, rfl, w1.gRests, dr, _, rfl, w1.rts, fun o nf => ?_⟩
     have bf := b1.out (x := dr) (o := .frz o (.dK (tabV tr))) (.inr ⟨_, wi.rts⟩)
     have lz := (wi.lens lo).2
     refine RM (fun i ys Hj => BookAt (clOf a) (upd H0i dr (.frz o (.dK (tabV tr)))) Hj x v ∧ ys = List.replicate i (.bl true)) ⟨bf, rfl⟩ ?_ ?_ ?_
     · rintro i ys Hj hi ⟨bj, rfl⟩
       refine ⟨bj.same _ _ Zb, ?_⟩
       rw [List.length_replicate]
       rw [SL] at hi
       have : (100 : Nat) < sizeLine := by decide
       omega
     · rintro i kk y ys Hj N hk ⟨bj, rfl⟩ kq
       obtain ⟨nn, ax, al, hi, rfl, rfl, hg, hw, hx'⟩ := w1.atR hk
       have dm := (lo.rest nn al hw).1
       have h2 := lo.next
       have h3 := lo.j24
       refine iteT ⟨_, rfl, _, rfl, _, x, v, nn, rfl, bj, VB (by omega) (by omega), bj.dis hw, fun H4 b4 => kq _ _ ⟨b4, ?_⟩⟩
       rw [List.replicate_succ']
     · rintro ys Hj ⟨bj, rfl⟩ acc hacc
       have hfr : Hj dr = some (.frz o (.dK (tabV tr))) := bj.same _ _ Zb
       have nad : dr ≠ acc := fun z => by rw [← z, hfr] at hacc; cases hacc
       refine ⟨dr, o, _, nf, by rw [Zc nad]; exact hfr, ?_⟩
       exact ⟨acc, _, rfl, SqL.of (by rw [Zc nad.symm]; exact Zb), k _⟩
end Tk
end
section
namespace Tk
open PySem L2
theorem law_end {P : Program} {w : World} {K : W.Frag} {mg : Str → Option Value} {fa : Addr} (TT : ∃ a, Txt K mg a) (hmg : mg "law" = some (.ref fa)) :
   ∃ fd : FuncData, (∀ (s : Shared) (u : Value), BindsTo s fd ⟨[u], []⟩ [("_law_script", u)]) ∧ ∀ base : Heap, K.In base → base.Ns mainGlobals mg → FnOk P w K mg base (CXe P w) 40 fa fd ["_law_script"] (spLaw K) := by
 obtain ⟨a, T⟩ := TT
 have e := T.f_law
 rw [hmg] at e
 have e2 : fa = a.f_law := by injection e with e; injection e
 subst e2
 refine ⟨a.fd_law, fun s u => ?_, fun base _ _ => (ok_law T).mono (by decide)⟩
 obtain ⟨oc, od, kV, doc, pm, an, cdv, ct, osl, efd, lk, hcd⟩ := T.F_law.ex
 rw [efd]
 exact .of_eq rfl
theorem walk {l : W.OpenLaw} {q : Program} {loose : List Str} {XP : (Str → Option Value) → Heap → Prop} {YP : World → Heap → Prop} {d : DefRec} {K : Params → W.Frag} {k : Nat} (hn : l.most = some 63) (hdf : d.params.defaults = []) (hr : Room k callerA)
   (hY : ∀ (w : World) (h : Heap), YP w h → (K w.params).In h)
   (F : ∀ (w : World) (mg : Str → Option Value) (fa : Addr) (h : Heap), (K w.params).In h → h.Ns mainGlobals mg → mg d.name = some (.ref fa) →
     ∃ fd : FuncData, (∀ (s : Shared) (u : Value), BindsTo s fd ⟨[u], []⟩ [("_law_script", u)]) ∧ ∀ base : Heap, (K w.params).In base → base.Ns mainGlobals mg → FnOk l.prog w (K w.params) mg base (CXe l.prog w) k fa fd ["_law_script"] (spLaw (K w.params))) :
   W.WalkO q loose XP YP l.row.toRowW d [] (fun f vs => PySem.call f vs) :=
 L2.walk_of (n := 63) (k := k) (x := "_law_script") (CX := fun w => CXe l.prog w) (sp := fun w => spLaw (K w.params)) hn (by decide) hdf hr hY F (fun _ _ a ns hl _ hS => ⟨a, ns, rfl, hS, hl, fun _ => rfl⟩) fun _ _ _ _ _ z => CXe.no z
end Tk
end
open PySem PySem.W PyProof.Rows
def PySem.W.Fast.tw12147594449815652686 : Nat := 0
def PySem.W.Fast.tw14701332650822257678 : Nat := 0
def PySem.W.Fast.tw8839366687766622517 : Nat := 0
def PySem.W.Fast.tw7634727285415688445 : Nat := 0
def PySem.W.Fast.tw6609828418802084949 : Nat := 0
def PySem.W.Fast.tw10334678445521558003 : Nat := 0
def PySem.W.Fast.tw6604068664363691907 : Nat := 0
def PySem.W.Fast.tw13711396166001074597 : Nat := 0
def PySem.W.Fast.tw2594844260339502939 : Nat := 0
def PySem.W.Fast.tw18048408540957643849 : Nat := 0
def PySem.W.Fast.tw14841281550991893864 : Nat := 0
def PySem.W.Fast.tw14610343738984412489 : Nat := 0
def PySem.W.Fast.tw12704221868076660009 : Nat := 0
def PySem.W.Fast.tw6610291570439031755 : Nat := 0
def PySem.W.Fast.tw5821141203866261718 : Nat := 0
def PySem.W.Fast.tw3027430550179852776 : Nat := 0
def PySem.W.Fast.tw8873791003565097209 : Nat := 0
def PySem.W.Fast.tw8317433622924091966 : Nat := 0
set_option maxRecDepth 100000 in
set_option maxHeartbeats 0 in
theorem PySem.Challenge.cw_tickbook_k11_where_holds : PySem.Challenge.rw_tickbook_k11_where.Holds := by
  w_on; o_law; k_head; (case hw => w_witness2)
  k_fill
  refine Tk.walk (k := 40) (l := PySem.Challenge.rw_tickbook_k11_where) rfl rfl ⟨rfl, by decide, by decide⟩ (fun w h Y => PySem.W.kIn_of Y) ?F
  case F =>
    intro w mg fa h KX G hmg
    have TT : ∃ a, Tk.Txt (L2.KOf KX) mg a := by
      dsimp only [L2.KOf]
      refine' Tk.txt_mk KX G ?e1 ?e2 ?e3 ?e4 ?e5 ?e6 ?e7 ?e8 ?e9 ?e10 ?e11 ?e12 ?e13 ?e14 ?e15 ?e16 ?e17 ?e18 ?e19 ?e20 ?e21 ?e22 ?e23 ?e24 ?e25 ?e26 ?e27 ?e28 ?e29 ?e30 ?e31 ?e32 ?e33 ?e34 ?e35 ?e36 ?e37 ?e38 ?e39 ?e40 ?e41 ?e42 ?e43 ?e44 ?e45 ?e46 ?e47 ?e48 ?e49 ?e50 ?e51 ?e52 ?e53 ?e54 ?e55 ?e56 ?e57 ?e58 ?e59 ?e60 ?e61 ?e62 ?e63 ?e64 ?e65 ?e66 ?e67 ?e68 ?e69 ?e70 ?e71 ?e72 ?e73 ?e74 ?e75 ?e76 ?e77 ?e78 ?e79 ?e80 ?e81 ?e82 ?e83 ?e84 ?e85 ?e86 ?e87 ?e88 ?e89 ?e90 ?e91 ?e92 ?e93 ?e94 ?e95 ?e96 ?e97 ?e98 ?e99 ?e100 ?e101 ?e102 ?e103 ?e104 ?e105 ?e106 ?e107 ?e108 ?e109 ?e110 ?e111 ?e112 ?e113 ?e114 ?e115 ?e116 ?e117 ?e118 ?e119 ?e120 ?e121 ?e122 ?e123 ?e124 ?e125 ?e126 ?e127 ?e128 ?e129 ?e130 ?e131 ?e132 ?e133 ?e134 ?e135 ?e136 ?e137 ?e138 ?e139 ?e140 ?e141 ?e142 ?e143 ?e144 ?e145 ?e146 ?e147 ?e148 ?e149 ?e150 ?e151 ?e152 ?e153 ?e154 ?e155 ?e156 ?e157 ?e158 ?e159 ?e160 ?e161 ?e162 ?e163 ?e164 ?e165 ?e166 ?e167 ?e168 ?e169 ?e170 ?e171 ?e172 ?e173 ?e174 ?e175 ?e176 ?e177 ?e178 ?e179 ?e180 ?e181 ?e182 ?e183 ?e184 ?e185 ?e186 ?e187 ?e188 ?e189 ?e190 ?e191 ?e192 ?e193 ?e194 ?e195 ?e196 ?e197 ?e198 ?e199 ?e200 ?e201 ?e202 ?e203 ?e204 ?e205 ?e206 ?e207 ?e208 ?e209 ?e210 ?e211 ?e212 ?e213 ?e214 ?e215 ?e216 ?e217 ?e218 ?e219 ?e220 ?e221 ?e222 ?e223 ?e224 ?e225 ?e226 ?e227 ?e228 ?e229 ?e230 ?e231 ?e232 ?e233 ?e234 ?e235 ?e236 ?e237 ?e238 ?e239 ?e240 ?e241 ?e242 ?e243 ?e244 ?e245 ?e246 ?e247 ?e248 ?e249 ?e250 ?e251 ?e252 ?e253 ?e254 ?e255 ?e256 ?e257 ?e258 ?e259 ?e260 ?e261 ?e262 ?e263 ?e264 ?e265 ?e266 ?e267 ?e268 ?e269 ?e270 ?e271 ?e272 ?e273 ?e274 ?e275 ?e276 ?e277 ?e278 ?e279 ?e280 ?e281 ?e282 ?e283 ?e284 ?e285 ?e286 ?e287 ?e288 ?e289 ?e290 ?e291 ?e292 ?e293 ?e294 ?e295 ?e296 ?e297 ?e298 ?e299 ?e300 ?e301 ?e302 ?e303 ?e304 ?e305 ?e306 ?e307 ?e308 ?e309 ?e310 ?e311 ?e312 ?e313 ?e314 ?e315 ?e316 ?e317 ?e318 ?e319 ?e320 ?e321 ?e322 ?e323 ?e324 ?e325 ?e326 ?e327 ?e328 ?e329 ?e330 ?e331 ?e332 ?e333 ?e334 ?e335 ?e336 ?e337 ?e338 ?e339 ?e340 ?e341 ?e342 ?e343 ?e344 ?e345 ?e346 ?e347 ?e348 ?e349 ?e350 ?e351 ?e352 ?e353 ?e354 ?e355 ?e356 ?e357 ?e358 ?e359 ?e360 ?e361 ?e362 ?e363 ?e364 ?e365
      case e1|e2|e3|e4|e5|e6|e7|e8|e9|e10|e11|e12|e13|e14|e15|e16|e17|e18|e19|e20|e21|e22|e23|e24|e25|e26|e27|e28|e29|e30|e31|e32|e33|e34|e35 => k_is
      case e36 => k_exc
      case e37|e38|e39|e40|e41|e42|e43|e44|e45|e46 => k_is
      case e47 => k_exc
      case e48|e49|e50|e51|e52|e53|e54|e55|e56|e57 => k_is
      case e58 => k_exc
      case e59|e60|e61|e62|e63|e64|e65|e66|e67|e68 => k_is
      case e69 => k_exc
      case e70|e71|e72|e73|e74|e75|e76|e77|e78|e79|e80|e81|e82|e83|e84|e85|e86|e87|e88|e89|e90|e91|e92|e93|e94|e95|e96|e97|e98|e99|e100|e101|e102|e103|e104|e105|e106|e107|e108|e109|e110|e111|e112|e113|e114|e115|e116|e117|e118|e119|e120|e121|e122|e123|e124|e125|e126|e127|e128|e129|e130|e131|e132|e133|e134|e135|e136|e137|e138|e139|e140|e141|e142|e143|e144|e145|e146|e147|e148|e149|e150|e151|e152|e153|e154|e155|e156|e157|e158|e159|e160|e161|e162|e163|e164|e165|e166|e167|e168|e169|e170|e171|e172|e173|e174|e175|e176|e177|e178|e179|e180|e181|e182|e183|e184|e185|e186|e187|e188|e189|e190|e191|e192|e193|e194|e195|e196|e197|e198|e199|e200|e201|e202|e203|e204|e205|e206|e207|e208|e209|e210|e211|e212|e213|e214|e215|e216|e217|e218|e219|e220|e221|e222|e223|e224|e225|e226|e227|e228|e229|e230|e231|e232|e233|e234|e235|e236|e237|e238|e239|e240|e241|e242|e243|e244|e245|e246|e247|e248|e249|e250|e251|e252|e253|e254|e255|e256|e257|e258|e259|e260|e261|e262|e263|e264|e265|e266|e267|e268|e269|e270|e271|e272|e273|e274|e275|e276|e277|e278|e279|e280|e281|e282|e283|e284|e285|e286|e287|e288|e289|e290|e291|e292|e293|e294|e295|e296|e297|e298|e299|e300|e301|e302|e303|e304|e305|e306|e307|e308|e309|e310|e311|e312|e313|e314|e315|e316|e317|e318|e319|e320|e321|e322|e323|e324|e325|e326|e327|e328|e329|e330|e331|e332|e333|e334|e335|e336|e337|e338|e339|e340|e341|e342|e343|e344|e345|e346|e347|e348|e349|e350|e351|e352|e353|e354|e355|e356|e357|e358|e359|e360|e361|e362|e363|e364|e365 => k_is
    exact Tk.law_end TT hmg
