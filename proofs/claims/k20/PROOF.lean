import PyProof.Rows.All
import Wide.All
import OpenK.AllK
import Wide.FinOn
import Lean
import PyProof.EqAt
import PyProof.EqKinds
import PyProof.TupleCall
import PySem.Challenge.RW_tickbook_k20_whole_just_then
set_option Elab.async false
set_option linter.all false
set_option maxRecDepth 100000
section
namespace L2
open PySem PySem.Spec PyProof.Rows
abbrev Key := Sum Int Str
def TR : Key → Value → Bool
 | .inl k, v => Value.isInt k v
 | .inr x, v => Value.isStrOf x v
def keyH (w : World) : Key → Int
 | .inl k => hashInt k
 | .inr x => hashStr w x
theorem ZM : ∀ {k : Key} {v : Value}, TR k v = true → (∃ i t, k = Sum.inl i ∧ v = Value.int i t) ∨ (∃ x t, k = Sum.inr x ∧ v = Value.str x t)
 | .inl i, v, h => by
   obtain ⟨t, e⟩ := Value.isInt_shape (k := i) (v := v) h
   exact .inl ⟨i, t, rfl, e⟩
 | .inr x, v, h => by
   obtain ⟨t, e⟩ := Value.isStrOf_shape (x := x) (v := v) h
   exact .inr ⟨x, t, rfl, e⟩
theorem keyIs_int (i : Int) (t : Tok) : TR (.inl i) (.int i t) = true := by simp [TR, Value.isInt]
theorem keyIs_str (x : Str) (t : Tok) : TR (.inr x) (.str x t) = true := by simp [TR, Value.isStrOf]
theorem key_ll (a b : Int) : decide ((Sum.inl a : Key) = Sum.inl b) = (a == b) := by
 by_cases e : a = b
 · subst e; simp
 · have h : ¬ (Sum.inl a : Key) = Sum.inl b := fun q => e (Sum.inl.inj q)
   rw [decide_eq_false h]
   exact (beq_eq_false_iff_ne.mpr e).symm
theorem key_rr (a b : Str) : decide ((Sum.inr a : Key) = Sum.inr b) = decide (a = b) := by
 by_cases e : a = b
 · subst e; simp
 · have h : ¬ (Sum.inr a : Key) = Sum.inr b := fun q => e (Sum.inr.inj q)
   rw [decide_eq_false h, decide_eq_false e]
theorem key_lr (a : Int) (b : Str) : decide ((Sum.inl a : Key) = Sum.inr b) = false := decide_eq_false (fun q => nomatch q)
theorem key_rl (a : Str) (b : Int) : decide ((Sum.inr a : Key) = Sum.inl b) = false := decide_eq_false (fun q => nomatch q)
def ZL (prog : Program) (w : World) : PySem.KeyKind prog w Key where
 is := TR
 hash := keyH w
 inj := fun v a b ha hb => by
   rcases ZM ha with ⟨i, t, rfl, rfl⟩ | ⟨x, t, rfl, rfl⟩
   · rcases ZM hb with ⟨j, u, rfl, e⟩ | ⟨y, u, rfl, e⟩
     · injection e with e1 _; rw [e1]
     · exact nomatch e
   · rcases ZM hb with ⟨j, u, rfl, e⟩ | ⟨y, u, rfl, e⟩
     · exact nomatch e
     · injection e with e1 _; rw [e1]
 byValue := fun k v h => by
   rcases ZM h with ⟨i, t, rfl, rfl⟩ | ⟨x, t, rfl, rfl⟩ <;> rfl
 pyHash := fun hv h => by
   rcases ZM hv with ⟨i, t, rfl, rfl⟩ | ⟨x, t, rfl, rfl⟩
   · exact wpAny_pyHash_int h
   · exact wpAny_pyHash_str h
 eqBool := fun hu hv h => by
   rcases ZM hu with ⟨i, t, rfl, rfl⟩ | ⟨x, t, rfl, rfl⟩
   · rcases ZM hv with ⟨j, u, rfl, rfl⟩ | ⟨y, u, rfl, rfl⟩
     · rw [key_ll] at h; exact wpAny_eqBool_int h
     · rw [key_lr] at h; exact SeqAt.EqAt.int_str i t y u _ _ _ _ h
   · rcases ZM hv with ⟨j, u, rfl, rfl⟩ | ⟨y, u, rfl, rfl⟩
     · rw [key_rl] at h; exact SeqAt.EqAt.str_int x t j u _ _ _ _ h
     · rw [key_rr] at h; exact wpAny_eqBool_str h
 «strs» := fun k x t v h => by
   rcases ZM h with ⟨i, u, rfl, e⟩ | ⟨y, u, rfl, e⟩
   · exact nomatch e
   · injection e with e1 _
     subst e1
     cases v <;> rfl
theorem mixKind_int (prog : Program) (w : World) (i : Int) (t : Tok) : (ZL prog w).is (.inl i) (.int i t) = true := keyIs_int i t
theorem mixKind_str (prog : Program) (w : World) (x : Str) (t : Tok) : (ZL prog w).is (.inr x) (.str x t) = true := keyIs_str x t
end L2
namespace L2
open PySem PySem.Spec PyProof.Rows
inductive V where
 | non | bl (b : Bool) | int (i : Int) | str (x : Str) | byt (b : Array UInt8) | flt (b : UInt64) | ref (a : Addr) | ty (n : String)
 deriving DecidableEq
def RelV : V → Value → Prop
 | .non, u => u = Value.none
 | .bl b, u => u = Value.bool b
 | .int i, u => ∃ t, u = Value.int i t
 | .str x, u => ∃ t, u = Value.str x t
 | .byt b, u => ∃ t, u = Value.bytes b t
 | .flt b, u => ∃ t, u = Value.float b t
 | .ref a, u => u = Value.ref a
 | .ty n, u => u = Value.type n
abbrev Vals : List V → List Value → Prop := Paired RelV
theorem Vals.length {xs : List V} {us : List Value} (r : Vals xs us) : xs.length = us.length := Paired.length r
theorem Vals.get : ∀ {xs : List V} {us : List Value} {i : Nat} {x : V}, Vals xs us → xs[i]? = some x → ∃ u, us[i]? = some u ∧ RelV x u
 | _, _, _, _, .nil, e => by simp at e
 | _, _, 0, _, .cons r _, e => by simp at e; subst e; exact ⟨_, rfl, r⟩
 | _, _, i + 1, x, .cons _ t, e => by
   obtain ⟨u, h1, h2⟩ := Vals.get (i := i) (x := x) t (by simpa using e)
   exact ⟨u, by simpa using h1, h2⟩
theorem Vals.append : ∀ {xs ys : List V} {us ws : List Value}, Vals xs us → Vals ys ws → Vals (xs ++ ys) (us ++ ws)
 | _, _, _, _, .nil, s => s
 | _, _, _, _, .cons r t, s => .cons r (Vals.append t s)
theorem Vals.take : ∀ {xs : List V} {us : List Value} (n : Nat), Vals xs us → Vals (xs.take n) (us.take n)
 | _, _, 0, _ => .nil
 | _, _, _ + 1, .nil => .nil
 | _, _, n + 1, .cons r t => .cons r (Vals.take n t)
theorem Vals.drop : ∀ {xs : List V} {us : List Value} (n : Nat), Vals xs us → Vals (xs.drop n) (us.drop n)
 | _, _, 0, r => r
 | _, _, _ + 1, .nil => .nil
 | _, _, n + 1, .cons _ t => Vals.drop n t
def RelO : Option V → Option Value → Prop
 | some v, some u => RelV v u
 | none, none => True
 | _, _ => False
def KV {κ : Type} : List (κ × V) → List (κ × Value) → Prop := Paired fun (p : κ × V) (q : κ × Value) => p.1 = q.1 ∧ RelV p.2 q.2
def kV : Key → V
 | .inl i => .int i
 | .inr x => .str x
inductive HO where
 | lst (xs : List V)
 | tup (xs : List V)
 | dK (kvs : List (Key × V)) | dT (kvs : List (List Key × V))
 | set (S : Int → Bool) (n : Nat)
 | ins (C dx : Addr) (fs : List (Str × V))
 | own (x : Addr)
 | xd (fs : List (Str × V))
 | met (f x : Addr)
 | rng (lo hi : Int)
 | frz (o : Obj) (u : HO)
 | tbl (ps : Array Value)
 | ext (φ : Heap → Prop)
abbrev Hp := Addr → Option HO
def upd (H : Hp) (a : Addr) (o : HO) : Hp := fun b => if b = a then some o else H b
theorem Zb {H : Hp} {a : Addr} {o : HO} : upd H a o a = some o := by unfold upd; rw [if_pos rfl]
theorem Zc {H : Hp} {a b : Addr} {o : HO} (h : b ≠ a) : upd H a o b = H b := by unfold upd; rw [if_neg h]
theorem ne_of {H : Hp} {a b : Addr} {o u : HO} (h : H a = some o) (h' : H b = some u) (d : o ≠ u) : a ≠ b := by
 intro e; subst e; rw [h] at h'; exact d (Option.some.inj h')
theorem Zk {H : Hp} {a b : Addr} {o : HO} (h : H a = some o) (h' : H b = none) : a ≠ b := by
 intro e; subst e; rw [h] at h'; cases h'
section
variable (P : Program) (w : World)
def ObjOk (H : Hp) (h : Heap) (a : Addr) : HO → Prop
 | .lst xs => xs.length ≤ sizeLine ∧ ∃ (its : List Value) (n : Nat), Vals xs its ∧ h.get? a = some { cls := .type "list", data := .seq its.toArray n }
 | .tup xs => xs.length ≤ sizeLine ∧ ∃ its : List Value, Vals xs its ∧ IsTup h a its.toArray
 | .dK kvs => kvs.length ≤ sizeLine ∧ (a == sysModules) = false ∧ ∃ vs, KV kvs vs ∧ h.DictOf (ZL P w) a vs
 | .dT kvs => kvs.length ≤ sizeLine ∧ (a == sysModules) = false ∧ ∃ xs : List (List Key × Addr × Value),
     Paired (fun (p : List Key × V) (q : List Key × Addr × Value) => p.1 = q.1 ∧ H q.2.1 = some (.tup (p.1.map kV)) ∧ RelV p.2 q.2.2) kvs xs ∧
     ∃ o es ep, h.get? a = some o ∧ o.ExactDict ∧ o.data = .dict es ep ∧ es.toList = xs.map (entryOfKey (tupleKind (ZL P w))) ∧ (xs.map (·.1)).Nodup
 | .set S n => h.SetOf (intKind P w) a S n
 | .ins C dx fs => H dx = some (.own a) ∧ fs.length ≤ 1000 ∧ dx ≠ a ∧ h.get? a = some (W.instObj C dx) ∧
     ∃ mA, h.Ns1 dx mA ∧ (∀ f, RelO (fs.lookup f) (mA f)) ∧ PySem.Within mA (fs.map (·.1))
 | .own _ => ∃ o, h.get? a = some o
 | .xd fs => ∃ mA, h.Ns1 a mA ∧ ∀ f, RelO (fs.lookup f) (mA f)
 | .rng lo hi => ∃ t u v, h.get? a = some { cls := .type "range", data := .fields #[.int lo t, .int hi u, .int 1 v] }
 | .frz o u => h.get? a = some o ∧ ObjOk H h a u
 | .tbl ps => h.get? a = some { cls := .none, data := .fields ps }
 | .met f x => h.get? a = some (W.methodObj (.ref f) (.ref x))
 | .ext φ => φ h ∧ (∃ o, h.get? a = some o) ∧ ∀ h1 h2 : Heap, φ h1 → (∀ o, h1.get? a = some o → h2.get? a = some o) → φ h2
def HOk (H : Hp) (h : Heap) : Prop := ∀ a o, H a = some o → ObjOk P w H h a o
end
section
variable {P : Program} {w : World} {H H' : Hp} {h h' : Heap} {a : Addr} {o : HO}
theorem ObjOk.lt (x : ObjOk P w H h a o) : a < h.objs.size := by
 cases o with
 | lst xs => obtain ⟨_, _, _, _, e⟩ := x; exact Heap.lt_size e
 | tup xs => obtain ⟨_, _, _, p⟩ := x; exact p.lt
 | dK kvs => obtain ⟨_, _, _, _, o, _, _, e, _⟩ := x; exact Heap.lt_size e
 | dT kvs => obtain ⟨_, _, _, _, o, _, _, e, _⟩ := x; exact Heap.lt_size e
 | set S n => obtain ⟨o, _, _, _, e, _⟩ := x; exact Heap.lt_size e
 | ins C dx fs => obtain ⟨_, _, _, e, _⟩ := x; exact Heap.lt_size e
 | own y => obtain ⟨_, e⟩ := x; exact Heap.lt_size e
 | xd fs => obtain ⟨_, ⟨_, _, _, e, _⟩, _⟩ := x; exact Heap.lt_size e
 | rng lo hi => obtain ⟨_, _, _, e⟩ := x; exact Heap.lt_size e
 | frz ob u => obtain ⟨e, _⟩ := x; exact Heap.lt_size e
 | tbl ps => exact Heap.lt_size (show h.get? a = some _ from x)
 | met f y => exact Heap.lt_size (show h.get? a = some _ from x)
 | ext φ => obtain ⟨_, ⟨_, e⟩, _⟩ := x; exact Heap.lt_size e
theorem Paired.mapP {α β : Type} {F G : α → β → Prop} : ∀ {l₁ : List α} {l₂ : List β}, Paired F l₁ l₂ → (∀ a b, F a b → G a b) → Paired G l₁ l₂
 | _, _, .nil, _ => .nil
 | _, _, .cons r t, f => .cons (f _ _ r) (Paired.mapP t f)
theorem ObjOk.stay (x : ObjOk P w H h a o) (k : ∀ b u, (b = a ∨ H b = some (.own a)) → h.get? b = some u → h'.get? b = some u)
   (ho : ∀ b, H b = some (.own a) → H' b = some (.own a)) (ht : ∀ b xs, H b = some (.tup xs) → H' b = some (.tup xs)) : ObjOk P w H' h' a o := by
 induction o with
 | lst xs => obtain ⟨z, its, n, r, e⟩ := x; exact ⟨z, its, n, r, k _ _ (.inl rfl) e⟩
 | tup xs => obtain ⟨z, its, r, ob, e, c⟩ := x; exact ⟨z, its, r, ob, k _ _ (.inl rfl) e, c⟩
 | dK kvs => obtain ⟨z, y, vs, r, ob, es, ep, e, c⟩ := x; exact ⟨z, y, vs, r, ob, es, ep, k _ _ (.inl rfl) e, c⟩
 | dT kvs =>
   obtain ⟨z, y, xs, r, ob, es, ep, e, c⟩ := x
   exact ⟨z, y, xs, Paired.mapP r fun p q z => ⟨z.1, ht _ _ z.2.1, z.2.2⟩, ob, es, ep, k _ _ (.inl rfl) e, c⟩
 | set S n => obtain ⟨ob, es, ep, t, e, c⟩ := x; exact ⟨ob, es, ep, t, k _ _ (.inl rfl) e, c⟩
 | ins C dx fs =>
   obtain ⟨d, z, ne, e, mA, ⟨od, es, ep, e2, c⟩, r⟩ := x
   exact ⟨ho _ d, z, ne, k _ _ (.inl rfl) e, mA, ⟨od, es, ep, k _ _ (.inr d) e2, c⟩, r⟩
 | own y => obtain ⟨ob, e⟩ := x; exact ⟨ob, k _ _ (.inl rfl) e⟩
 | xd fs => obtain ⟨mA, ⟨od, es, ep, e, c⟩, r⟩ := x; exact ⟨mA, ⟨od, es, ep, k _ _ (.inl rfl) e, c⟩, r⟩
 | rng lo hi => obtain ⟨t, u, v, e⟩ := x; exact ⟨t, u, v, k _ _ (.inl rfl) e⟩
 | frz ob u ih => obtain ⟨e, q⟩ := x; exact ⟨k _ _ (.inl rfl) e, ih q⟩
 | tbl ps =>
   have e : h.get? a = some { cls := .none, data := .fields ps } := x
   show h'.get? a = some { cls := .none, data := .fields ps }
   exact k a _ (.inl rfl) e
 | met f y =>
   have e : h.get? a = some (W.methodObj (.ref f) (.ref y)) := x
   show h'.get? a = some (W.methodObj (.ref f) (.ref y))
   exact k a _ (.inl rfl) e
 | ext φ => obtain ⟨p, ⟨o, e⟩, st⟩ := x; exact ⟨st _ _ p fun o q => k _ _ (.inl rfl) q, ⟨o, k _ _ (.inl rfl) e⟩, st⟩
theorem HOk.lt (x : HOk P w H h) (e : H a = some o) : a < h.objs.size := (x a o e).lt
theorem HOk.fresh (x : HOk P w H h) (e : h.objs.size ≤ a) : H a = none := by
 cases q : H a with
 | none => rfl
 | some u => exact absurd (Nat.lt_of_lt_of_le (x.lt q) e) (Nat.lt_irrefl _)
theorem HOk.kept (x : HOk P w H h) (k : ∀ b u, h.get? b = some u → h'.get? b = some u) : HOk P w H h' := fun a o e =>
 (x a o e).stay (fun b u _ q => k b u q) (fun _ q => q) fun _ _ q => q
theorem HOk.laid (x : HOk P w H h) (k : ∀ b u, h.get? b = some u → h'.get? b = some u) (hp : h.objs.size ≤ a) (new : ObjOk P w (upd H a o) h' a o) : HOk P w (upd H a o) h' := fun b u e => by
 have hn := x.fresh hp
 by_cases hb : b = a
 · subst hb; rw [Zb] at e; cases e; exact new
 · rw [Zc hb] at e
   exact (x b u e).stay (fun c v _ q => k c v q) (fun c q => by rw [Zc (Zk q hn)]; exact q) fun c xs q => by rw [Zc (Zk q hn)]; exact q
end
def Rd (H : Hp) (a : Addr) (u : HO) : Prop := H a = some u ∨ ∃ o, H a = some (.frz o u)
theorem Rd.ok {P : Program} {w : World} {H : Hp} {h : Heap} {a : Addr} {u : HO} (r : Rd H a u) (x : HOk P w H h) : ObjOk P w H h a u := by
 rcases r with r | ⟨o, r⟩
 · exact x a u r
 · obtain ⟨_, q⟩ := x a _ r
   exact q
def Mut : Option HO → Prop
 | some (.lst _) => True
 | some (.dK _) => True
 | some (.dT _) => True
 | some (.set _ _) => True
 | some (.ins _ _ _) => True
 | some (.ext _) => True
 | _ => False
section
variable {P : Program} {w : World} {H : Hp} {h h' : Heap} {x e : Addr} {o' : HO}
theorem HOk.write (ok : HOk P w H h) (mu : Mut (H x)) (he : e = x ∨ H e = some (.own x)) (k : ∀ b u, b ≠ e → h.get? b = some u → h'.get? b = some u) (heo : ∃ u, h'.get? e = some u)
   (new : ObjOk P w (upd H x o') h' x o') : HOk P w (upd H x o') h' := fun b u q => by
 have nown : ∀ c y, H c = some (.own y) → c ≠ x := fun c y r z => by subst z; rw [r] at mu; exact mu
 have ntup : ∀ c xs, H c = some (.tup xs) → c ≠ x := fun c xs r z => by subst z; rw [r] at mu; exact mu
 by_cases hb : b = x
 · subst hb; rw [Zb] at q; cases q; exact new
 · rw [Zc hb] at q
   by_cases hbe : b = e
   · have q' : H b = some (.own x) := by
       rcases he with z | z
       · exact absurd (hbe.trans z) hb
       · rw [hbe]; exact z
     rw [q] at q'; cases q'
     obtain ⟨v, hv⟩ := heo
     exact ⟨v, by rw [hbe]; exact hv⟩
   · refine (ok b u q).stay (fun c v hc r => k c v ?_ r) (fun c r => by rw [Zc (nown c b r)]; exact r) fun c xs r => by rw [Zc (ntup c xs r)]; exact r
     rcases hc with rfl | hc
     · exact hbe
     · rintro rfl
       rcases he with z | z
       · exact nown c b hc z
       · rw [hc] at z; cases z; exact hb rfl
end
structure Un (fs ex : List Addr) (H H' : Hp) (h h' : Heap) : Prop where
 keep : ∀ b o, h.get? b = some o → H b = none → b ∉ fs → b ∉ ex → h'.get? b = some o
 slot : ∀ b o, h.get? b = some o → H b = none → b ∈ fs → b ∉ ex → ∃ sl, h'.get? b = some { o with slots := sl }
 free : ∀ b o, h.get? b = some o → H b = none → b ∉ ex → H' b = none
 there : ∀ b o, h.get? b = some o → b ∉ ex → ∃ o', h'.get? b = some o'
 tups : ∀ b xs, H b = some (.tup xs) → H' b = some (.tup xs)
 frzs : ∀ b o u, H b = some (.frz o u) → H' b = some (.frz o u)
 tbls : ∀ b ps, H b = some (.tbl ps) → ∃ more, H' b = some (.tbl (ps ++ more))
section
variable {fs fs' ex ex' : List Addr} {H H1 H2 : Hp} {h h1 h2 h' : Heap} {a x e : Addr} {o : HO}
theorem Un.any (u : Un fs ex H H1 h h1) {b : Addr} {ob : Obj} (q : h.get? b = some ob) (n : H b = none) (hx : b ∉ ex) : ∃ sl, h1.get? b = some { ob with slots := sl } := by
 by_cases hb : b ∈ fs
 · exact u.slot b ob q n hb hx
 · exact ⟨ob.slots, u.keep b ob q n hb hx⟩
theorem Un.kept (k : ∀ b u, h.get? b = some u → h'.get? b = some u) : Un fs ex H H h h' :=
 ⟨fun b ob q _ _ _ => k b ob q, fun b ob q _ _ _ => ⟨ob.slots, k b ob q⟩, fun _ _ _ n _ => n, fun b ob q _ => ⟨ob, k b ob q⟩, fun _ _ q => q, fun _ _ _ q => q, fun _ ps q => ⟨#[], by rw [q]; simp⟩⟩
theorem Un.refl : Un fs ex H H h h := Un.kept fun _ _ q => q
theorem Un.laid (k : ∀ b u, h.get? b = some u → h'.get? b = some u) (hp : h.objs.size ≤ a) (hn : H a = none) : Un fs ex H (upd H a o) h h' where
 keep := fun b u q _ _ _ => k b u q
 slot := fun b u q _ _ _ => ⟨u.slots, k b u q⟩
 free := fun b u q n _ => by rw [Zc (Nat.ne_of_lt (Nat.lt_of_lt_of_le (Heap.lt_size q) hp))]; exact n
 there := fun b u q _ => ⟨u, k b u q⟩
 tups := fun b xs q => by rw [Zc (Zk q hn)]; exact q
 frzs := fun b u xs q => by rw [Zc (Zk q hn)]; exact q
 tbls := fun b ps q => ⟨#[], by rw [Zc (Zk q hn), q]; simp⟩
theorem Un.write (mu : Mut (H x)) (he : e = x ∨ H e = some (.own x)) (k : ∀ b u, b ≠ e → h.get? b = some u → h'.get? b = some u) (heo : ∃ u, h'.get? e = some u) : Un fs ex H (upd H x o) h h' := by
 have hx : ∀ b, H b = none → b ≠ x := fun b n z => by subst z; rw [n] at mu; exact mu
 have hb : ∀ b, H b = none → b ≠ e := fun b n z => by
   subst z
   rcases he with r | r
   · exact hx b n r
   · rw [n] at r; cases r
 have hm : ∀ b u, H b = some u → ¬ Mut (some u) → b ≠ x := fun b u q nm z => by subst z; rw [q] at mu; exact nm mu
 refine ⟨fun b u q n _ _ => k b u (hb b n) q, fun b u q n _ _ => ⟨u.slots, k b u (hb b n) q⟩, fun b u q n _ => by rw [Zc (hx b n)]; exact n, fun b u q _ => ?_,
   fun b xs q => by rw [Zc (hm b _ q fun z => z)]; exact q, fun b u xs q => by rw [Zc (hm b _ q fun z => z)]; exact q, fun b ps q => ⟨#[], by rw [Zc (hm b _ q fun z => z), q]; simp⟩⟩
 by_cases hbe : b = e
 · subst hbe; exact heo
 · exact ⟨u, k b u hbe q⟩
end
def trk (h : Heap) (H : Hp) : List Addr := (List.range h.objs.size).filter fun a => (H a).isSome
def hidT (h : Heap) (H : Hp) : Heap := W.hideAll h (trk h H)
theorem hidT_size (h : Heap) (H : Hp) : (hidT h H).objs.size = h.objs.size := W.hideAll_size _ _
theorem hidT_get {h : Heap} {H : Hp} {b : Addr} {o : Obj} (e : h.get? b = some o) (n : H b = none) : (hidT h H).get? b = some o :=
 W.hideAll_get _ e fun hm => by
   have q : (H b).isSome = true := (List.mem_filter.mp hm).2
   rw [n] at q; simp at q
theorem of_hidT {h : Heap} {H : Hp} {b : Addr} {o : Obj} (e : (hidT h H).get? b = some o) : h.get? b = some o ∧ H b = none := by
 have e' : h.get? b = some o := W.of_hideAll (trk h H) e
 refine ⟨e', ?_⟩
 cases q : H b with
 | none => rfl
 | some x =>
   have hm : b ∈ trk h H := List.mem_filter.mpr ⟨List.mem_range.mpr (Heap.lt_size e'), by simp [q]⟩
   have z : (hidT h H).get? b = none := W.hideAll_none (trk h H) hm
   rw [z] at e; cases e
end L2
namespace L2
open PySem PySem.Spec PyProof.Rows
structure Mod (K : W.Frag) (mg : Str → Option Value) (base : Heap) : Prop where
 kin : K.In base
 glob : base.Ns mainGlobals mg
 blt : ∃ mb, base.Ns builtinsNs mb ∧ ∀ x : Str, x ≠ "__name__" → mb x = bootBuiltins x
 nolimit : base.NoLimit
structure Cx where
 prog : Program
 w : World
 K : W.Frag
 mg : Str → Option Value
 base : Heap
 A : Around
 N : List Str
 s₀ : Shared
 H₀ : Hp
 env : Env
 outer : List Env
 stack : List Env
 ex : List Addr
 fn : Str → Bool
 calm : Bool
 pn : List (Addr × Obj)
 xe : Value → Shared → Prop
def frs (l : List Env) : List Addr := l.filterMap (·.frame)
abbrev Cx.fs (X : Cx) : List Addr := frs X.outer
def Vis (sc : Scope) (x : Str) : Prop := sc.names.lookup x = some .local ∨ sc.names.lookup x = some .cell ∨ sc.names.lookup x = some .free
def Loc (sc : Scope) (x : Str) : Prop := sc.names.lookup x = some .local ∨ sc.names.lookup x = some .cell
def Look (env : Env) (h : Heap) (m : Str → Option Value) (x : Str) (u : Value) : Prop :=
 (env.kindOf x = some .local ∧ m x = some u) ∨ ((env.kindOf x = some .cell ∨ env.kindOf x = some .free) ∧ ∃ c, env.cells.lookup x = some c ∧ h.IsCell c (some u))
structure Cx.Ok (X : Cx) : Prop where
 mod : Mod X.K X.mg X.base
 kind : X.env.scope.kind = .function
 glob : X.env.globals = mainGlobals
 blt : X.env.builtins = builtinsNs
 above : X.s₀.heap.objs.size ≤ X.env.locals
 inj : ∀ x y c, X.env.cells.lookup x = some c → X.env.cells.lookup y = some c → x = y
 has : ∀ x, (X.env.kindOf x = some .cell ∨ X.env.kindOf x = some .free) → ∃ c, X.env.cells.lookup x = some c
 cab : ∀ x c, X.fn x = true → X.env.cells.lookup x = some c → X.s₀.heap.objs.size ≤ c
 hd : X.calm = true → X.A.handled = none
 frames : X.A.frames = some X.stack
 stk : X.stack = X.outer ∨ (X.stack = X.env :: X.outer ∧ X.env.frame = some X.env.locals)
 exf : ∀ b ∈ X.ex, b ≠ X.env.locals ∧ ∀ x c, X.env.cells.lookup x = some c → c ≠ b
 bs : ∀ b o, X.base.get? b = some o → X.s₀.heap.get? b = some o ∧ X.H₀ b = none
 bsz : X.base.objs.size ≤ X.s₀.heap.objs.size
 noex : ∀ b o, X.base.get? b = some o → b ∉ X.ex
 exfs : ∀ b ∈ X.ex, b ∉ X.fs
 funs : X.s₀.heap.FunFrames X.base X.outer
 frf : ∀ b ∈ X.fs, X.H₀ b = none
structure Inv (X : Cx) (pins : List (Addr × Obj)) (σ : List (Option V)) (H : Hp) (s : Shared) : Prop where
 ok : X.Ok
 os : s.os = X.s₀.os
 bare : AllBare s.gens
 base : Un X.fs X.ex X.H₀ H X.s₀.heap s.heap
 loc : ∃ m, s.heap.Ns X.env.locals m ∧ ∀ (i : Nat) (x : Str) (v : V), X.N[i]? = some x → σ[i]? = some (some v) → Vis X.env.scope x → ∃ u, RelV v u ∧ Look X.env s.heap m x u
 cell : ∀ x c, X.env.cells.lookup x = some c → ∃ v, s.heap.IsCell c v
 free : H X.env.locals = none
 freeC : ∀ x c, X.env.cells.lookup x = some c → H c = none
 pin : ∀ p ∈ X.pn ++ pins, s.heap.get? p.1 = some p.2 ∧ H p.1 = none ∧ p.1 ≠ X.env.locals ∧ p.1 ∉ X.fs ∧ ∀ v, p.2.data ≠ .cell v
 hok : HOk X.prog X.w H s.heap
 len : σ.length = X.N.length
section
variable {X : Cx} {pins : List (Addr × Obj)} {σ : List (Option V)} {H H' : Hp} {s : Shared} {h' : Heap}
theorem Cx.Ok.nofr (ok : X.Ok) {b : Addr} {o : Obj} (e : X.base.get? b = some o) : b ∉ X.fs := fun hb => by
 have := (ok.funs.mem hb).1
 rw [e] at this; cases this
theorem Inv.bs (I : Inv X pins σ H s) : ∀ b o, X.base.get? b = some o → s.heap.get? b = some o ∧ H b = none := fun b o e =>
 ⟨I.base.keep b o (I.ok.bs b o e).1 (I.ok.bs b o e).2 (I.ok.nofr e) (I.ok.noex b o e), I.base.free b o (I.ok.bs b o e).1 (I.ok.bs b o e).2 (I.ok.noex b o e)⟩
theorem Inv.bk (I : Inv X pins σ H s) : ∀ b o, X.base.get? b = some o → s.heap.get? b = some o := fun b o e => (I.bs b o e).1
theorem Inv.mod (I : Inv X pins σ H s) : Mod X.K X.mg X.base := I.ok.mod
theorem Inv.kIn (I : Inv X pins σ H s) : X.K.In s.heap := I.ok.mod.kin.keeps I.bk
theorem Inv.lt (I : Inv X pins σ H s) : X.env.locals < s.heap.objs.size := let ⟨_, hn, _⟩ := I.loc; hn.lt
theorem Inv.sz (I : Inv X pins σ H s) : X.s₀.heap.objs.size ≤ s.heap.objs.size := Nat.le_trans I.ok.above (Nat.le_of_lt I.lt)
theorem Inv.nofs (I : Inv X pins σ H s) {a : Addr} (h : s.heap.objs.size ≤ a) : a ∉ X.fs := fun hb => by
 obtain ⟨_, o, ho, _⟩ := I.ok.funs.mem hb
 exact absurd (Nat.lt_of_lt_of_le (Heap.lt_size ho) (Nat.le_trans I.sz h)) (Nat.lt_irrefl _)
theorem Inv.cne (I : Inv X pins σ H s) : ∀ x c, X.env.cells.lookup x = some c → c ≠ X.env.locals := fun x c e z => by
 obtain ⟨v, o, ho, hd⟩ := I.cell x c e
 obtain ⟨m, ⟨o', es, ep, ho', hd', _⟩, _⟩ := I.loc
 rw [z, ho'] at ho; cases ho; rw [hd'] at hd; cases hd
theorem Inv.funs (I : Inv X pins σ H s) : s.heap.FunFrames X.base X.outer := by
 have all : ∀ (l : List Env), (∀ b ∈ frs l, b ∈ X.fs) → X.s₀.heap.FunFrames X.base l → s.heap.FunFrames X.base l := by
   intro l
   induction l with
   | nil => intro _ _; trivial
   | cons env r ih =>
     intro hs hl
     obtain ⟨hk, ⟨L, o, hf, hn, ho, hd⟩, hr⟩ := hl
     have hL : L ∈ X.fs := hs L (by unfold frs; rw [List.filterMap_cons, hf]; exact List.mem_cons_self)
     obtain ⟨sl, e⟩ := I.base.slot L o ho (I.ok.frf L hL) hL fun z => I.ok.exfs L z hL
     exact ⟨hk, ⟨L, _, hf, hn, e, hd⟩, ih (fun b hb => hs b (by unfold frs; rw [List.filterMap_cons, hf]; exact List.mem_cons_of_mem _ hb)) hr⟩
 exact all X.outer (fun _ hb => hb) I.ok.funs
theorem Inv.stack (I : Inv X pins σ H s) : s.heap.FunFrames X.base X.stack := by
 rcases I.ok.stk with e | ⟨e, hf⟩
 · rw [e]; exact I.funs
 · rw [e]
   obtain ⟨m, hn, _⟩ := I.loc
   refine .cons (by rw [I.ok.kind]; decide) hf hn ?_ I.funs
   exact Heap.get?_none_of_le (Nat.le_trans I.ok.bsz I.ok.above)
theorem Inv.stkSub (I : Inv X pins σ H s) : ∀ b ∈ frs X.stack, b ∈ X.env.locals :: X.fs := fun b hb => by
 rcases I.ok.stk with e | ⟨e, hf⟩
 · rw [e] at hb; exact List.mem_cons_of_mem _ hb
 · rw [e] at hb
   unfold frs at hb
   rw [List.filterMap_cons, hf] at hb
   exact hb
theorem Inv.stkFree (I : Inv X pins σ H s) : ∀ b ∈ frs X.stack, H b = none := fun b hb => by
 rcases List.mem_cons.mp (I.stkSub b hb) with e | hb
 · rw [e]; exact I.free
 · obtain ⟨_, o, ho, _⟩ := I.ok.funs.mem hb
   exact I.base.free b o ho (I.ok.frf b hb) fun z => I.ok.exfs b z hb
theorem Inv.step {g' : Array GenState} {t' : Nat} {d' : Drawn} {ch : List Addr} (I : Inv X pins σ H s)
   (hch : ∀ b ∈ ch, (b ∈ X.ex ∨ X.s₀.heap.objs.size ≤ b) ∧ b ≠ X.env.locals ∧ (∀ x c, X.env.cells.lookup x = some c → c ≠ b) ∧ ∀ p ∈ X.pn ++ pins, p.1 ≠ b)
   (keep : ∀ b o, b ≠ X.env.locals → b ∉ X.fs → b ∉ ch → s.heap.get? b = some o → H b = none → h'.get? b = some o)
   (slot : ∀ b o, b ≠ X.env.locals → b ∈ X.fs → b ∉ ch → s.heap.get? b = some o → H b = none → ∃ sl, h'.get? b = some { o with slots := sl }) (free : ∀ b o, b ∉ ch → s.heap.get? b = some o → H b = none → H' b = none)
   (there : ∀ b o, b ∉ ch → s.heap.get? b = some o → ∃ o', h'.get? b = some o')
   (tups : ∀ b xs, H b = some (.tup xs) → H' b = some (.tup xs)) (frzs : ∀ b o u, H b = some (.frz o u) → H' b = some (.frz o u)) (tbls : ∀ b ps, H b = some (.tbl ps) → ∃ more, H' b = some (.tbl (ps ++ more)))
   (ns : ∀ m, s.heap.Ns X.env.locals m → h'.Ns X.env.locals m) (hok : HOk X.prog X.w H' h') (hg : AllBare g') :
   Inv X pins σ H' { s with heap := h', gens := g', drawn := d', toks := t' } := by
 have neL : ∀ b o, X.s₀.heap.get? b = some o → b ≠ X.env.locals := fun b o e => Nat.ne_of_lt (Nat.lt_of_lt_of_le (Heap.lt_size e) I.ok.above)
 have neC : ∀ b o, X.s₀.heap.get? b = some o → b ∉ X.ex → b ∉ ch := fun b o e hx hb => by
   rcases (hch b hb).1 with z | z
   · exact hx z
   · exact absurd (Nat.lt_of_lt_of_le (Heap.lt_size e) z) (Nat.lt_irrefl _)
 have cellK : ∀ x c, X.env.cells.lookup x = some c → ∀ v, s.heap.IsCell c v → h'.IsCell c v := fun x c e v ⟨o, ho, hd⟩ => by
   have nch : c ∉ ch := fun z => (hch c z).2.2.1 x c e rfl
   by_cases hc : c ∈ X.fs
   · obtain ⟨sl, q⟩ := slot c o (I.cne x c e) hc nch ho (I.freeC x c e)
     exact ⟨_, q, hd⟩
   · exact ⟨o, keep c o (I.cne x c e) hc nch ho (I.freeC x c e), hd⟩
 refine ⟨I.ok, I.os, hg, ⟨fun b o e n hb hx => ?_, fun b o e n hb hx => ?_, fun b o e n hx => ?_, fun b o e hx => ?_, fun b xs e => tups b xs (I.base.tups b xs e), fun b o xs e => frzs b o xs (I.base.frzs b o xs e), fun b ps e => ?_⟩, ?_, fun x c e => ?_, ?_, fun x c e => ?_, fun p hp => ?_, hok, I.len⟩
 · exact keep b o (neL b o e) hb (neC b o e hx) (I.base.keep b o e n hb hx) (I.base.free b o e n hx)
 · obtain ⟨sl, e1⟩ := I.base.slot b o e n hb hx
   obtain ⟨sl', e2⟩ := slot b _ (neL b o e) hb (neC b o e hx) e1 (I.base.free b o e n hx)
   exact ⟨sl', e2⟩
 · obtain ⟨o', e1⟩ := I.base.there b o e hx
   exact free b o' (neC b o e hx) e1 (I.base.free b o e n hx)
 · obtain ⟨o', e1⟩ := I.base.there b o e hx
   exact there b o' (neC b o e hx) e1
 · obtain ⟨m1, e1⟩ := I.base.tbls b ps e
   obtain ⟨m2, e2⟩ := tbls b _ e1
   exact ⟨m1 ++ m2, by rw [e2, Array.append_assoc]⟩
 · obtain ⟨m, hn, hl⟩ := I.loc
   refine ⟨m, ns m hn, fun i x v e1 e2 e3 => ?_⟩
   obtain ⟨u, r, l⟩ := hl i x v e1 e2 e3
   refine ⟨u, r, ?_⟩
   rcases l with l | ⟨k, c, e, z⟩
   · exact .inl l
   · exact .inr ⟨k, c, e, cellK x c e _ z⟩
 · obtain ⟨v, z⟩ := I.cell x c e
   exact ⟨v, cellK x c e v z⟩
 · obtain ⟨m, ⟨o, _, _, ho, _⟩, _⟩ := I.loc
   exact free _ o (fun z => (hch _ z).2.1 rfl) ho I.free
 · obtain ⟨v, o, ho, hd⟩ := I.cell x c e
   exact free c o (fun z => (hch c z).2.2.1 x c e rfl) ho (I.freeC x c e)
 · obtain ⟨e, n, ne, nf, d⟩ := I.pin p hp
   have nch : p.1 ∉ ch := fun z => (hch p.1 z).2.2.2 p hp rfl
   exact ⟨keep p.1 p.2 ne nf nch e n, free p.1 p.2 nch e n, ne, nf, d⟩
theorem Inv.un {t' : Nat} (I : Inv X pins σ H s) (u : Un X.fs [] H H' s.heap h') (hok : HOk X.prog X.w H' h') : Inv X pins σ H' { s with heap := h', toks := t' } := by
 obtain ⟨m, ⟨o, es, ep, ho, r⟩, _⟩ := id I.loc
 obtain ⟨sl, hL⟩ := u.any ho I.free (by simp)
 exact I.step (g' := s.gens) (d' := s.drawn) (ch := []) (fun _ z => nomatch z) (fun b o _ hb _ e n => u.keep b o e n hb (by simp)) (fun b o _ hb _ e n => u.slot b o e n hb (by simp)) (fun b o _ e n => u.free b o e n (by simp)) (fun b o _ e => u.there b o e (by simp)) u.tups u.frzs u.tbls (fun m' hm => by
   obtain ⟨o', es', ep', ho', r'⟩ := hm
   rw [ho] at ho'; cases ho'
   exact ⟨_, es', ep', hL, r'⟩) hok I.bare
theorem Inv.call {g' : Array GenState} {t' : Nat} {d' : Drawn} {ch : List Addr} (I : Inv X pins σ H s) (u : Un (frs X.stack) ch H H' s.heap h') (hok : HOk X.prog X.w H' h') (hg : AllBare g')
   (hch : ∀ b ∈ ch, (b ∈ X.ex ∨ X.s₀.heap.objs.size ≤ b) ∧ b ≠ X.env.locals ∧ (∀ x c, X.env.cells.lookup x = some c → c ≠ b) ∧ ∀ p ∈ X.pn ++ pins, p.1 ≠ b) :
   Inv X pins σ H' { s with heap := h', gens := g', drawn := d', toks := t' } := by
 obtain ⟨m, ⟨o, es, ep, ho, r⟩, _⟩ := id I.loc
 obtain ⟨sl, hL⟩ := u.any ho I.free fun z => (hch _ z).2.1 rfl
 exact I.step (ch := ch) hch (fun b o hL hb hc e n => u.keep b o e n (fun z => (List.mem_cons.mp (I.stkSub b z)).elim hL hb) hc) (fun b o _ _ hc e n => u.any e n hc) (fun b o hc e n => u.free b o e n hc) (fun b o hc e => u.there b o e hc) u.tups u.frzs u.tbls (fun m' hm => by
   obtain ⟨o', es', ep', ho', r'⟩ := hm
   rw [ho] at ho'; cases ho'
   exact ⟨_, es', ep', hL, r'⟩) hok hg
theorem Inv.turned {t' : Nat} {it : Addr} (I : Inv X pins σ H s) (k : ∀ b o, b ≠ it → s.heap.get? b = some o → h'.get? b = some o) (hn : H it = none) (hL : it ≠ X.env.locals)
   (h1 : it ∈ X.ex ∨ X.s₀.heap.objs.size ≤ it) (h2 : ∀ x c, X.env.cells.lookup x = some c → c ≠ it) (h3 : ∀ p ∈ X.pn ++ pins, p.1 ≠ it) : Inv X pins σ H { s with heap := h', toks := t' } := by
 have nit : ∀ b u, H b = some u → b ≠ it := fun b u e z => by rw [z, hn] at e; cases e
 refine I.step (g' := s.gens) (d' := s.drawn) (ch := [it]) (fun b hb => ?_) (fun b o _ _ hc e _ => k b o (fun z => hc (by simp [z])) e) (fun b o _ _ hc e _ => ⟨o.slots, k b o (fun z => hc (by simp [z])) e⟩) (fun _ _ _ _ n => n)
   (fun b o hc e => ⟨o, k b o (fun z => hc (by simp [z])) e⟩) (fun _ _ e => e) (fun _ _ _ e => e) (fun b ps e => ⟨#[], by rw [e]; simp⟩) (fun m hm => ?_) (fun b u e => ?_) I.bare
 · have e : b = it := by simpa using hb
   subst e
   exact ⟨h1, hL, h2, h3⟩
 · obtain ⟨o, es, ep, ho, r⟩ := hm
   exact ⟨o, es, ep, k _ o (Ne.symm hL) ho, r⟩
 · refine (I.hok b u e).stay (fun c v hc q => k c v ?_ q) (fun _ q => q) fun _ _ q => q
   rcases hc with z | z
   · rw [z]; exact nit b u e
   · exact nit c _ z
theorem Inv.tok (I : Inv X pins σ H s) (t : Nat) : Inv X pins σ H { s with toks := t } := I.un (h' := s.heap) (t' := t) Un.refl I.hok
theorem Inv.kept {t' : Nat} (I : Inv X pins σ H s) (k : ∀ b u, s.heap.get? b = some u → h'.get? b = some u) : Inv X pins σ H { s with heap := h', toks := t' } := I.un (Un.kept k) (I.hok.kept k)
theorem Inv.laid {a : Addr} {o : HO} {t' : Nat} (I : Inv X pins σ H s) (k : ∀ b u, s.heap.get? b = some u → h'.get? b = some u) (hp : s.heap.objs.size ≤ a) (new : ObjOk X.prog X.w (upd H a o) h' a o) :
   Inv X pins σ (upd H a o) { s with heap := h', toks := t' } := I.un (Un.laid k hp (I.hok.fresh hp)) (I.hok.laid k hp new)
theorem Inv.write {x e : Addr} {o : HO} {t' : Nat} (I : Inv X pins σ H s) (mu : Mut (H x)) (he : e = x ∨ H e = some (.own x)) (k : ∀ b u, b ≠ e → s.heap.get? b = some u → h'.get? b = some u) (heo : ∃ u, h'.get? e = some u)
   (new : ObjOk X.prog X.w (upd H x o) h' x o) : Inv X pins σ (upd H x o) { s with heap := h', toks := t' } := I.un (Un.write mu he k heo) (I.hok.write mu he k heo new)
theorem Inv.weak {σ' : List (Option V)} (I : Inv X pins σ H s) (hl : σ'.length = σ.length) (w : ∀ (i : Nat) v, σ'[i]? = some (some v) → σ[i]? = some (some v)) : Inv X pins σ' H s :=
 ⟨I.ok, I.os, I.bare, I.base, let ⟨m, hn, hl'⟩ := I.loc; ⟨m, hn, fun i x v e1 e2 e3 => hl' i x v e1 (w i v e2) e3⟩, I.cell, I.free, I.freeC, I.pin, I.hok, hl.trans I.len⟩
theorem Inv.pins_of {pins' : List (Addr × Obj)} (I : Inv X pins σ H s) (h : ∀ p ∈ pins', s.heap.get? p.1 = some p.2 ∧ H p.1 = none ∧ p.1 ≠ X.env.locals ∧ p.1 ∉ X.fs ∧ ∀ v, p.2.data ≠ .cell v) : Inv X pins' σ H s :=
 ⟨I.ok, I.os, I.bare, I.base, I.loc, I.cell, I.free, I.freeC, fun p hp => (List.mem_append.mp hp).elim (fun z => I.pin p (List.mem_append_left _ z)) (h p), I.hok, I.len⟩
theorem nodup_ix {N : List Str} (hN : N.Nodup) {i j : Nat} {x : Str} (a : N[i]? = some x) (b : N[j]? = some x) : i = j := by
 obtain ⟨h1, e1⟩ := List.getElem?_eq_some_iff.mp a
 obtain ⟨h2, e2⟩ := List.getElem?_eq_some_iff.mp b
 exact (List.getElem_inj hN).mp (e1.trans e2.symm)
theorem store_ok2 {M : Model} {A : Around} {E : Value → Shared → Prop} {i : Nat} {x : Str} {v : V} {u : Value} {Q : Unit → Shared → Prop} (I : Inv X pins σ H s) (hN : X.N.Nodup) (hi : X.N[i]? = some x) (hx : Loc X.env.scope x) (r : RelV v u)
   (h : ∀ s', Inv X pins (σ.set i (some v)) H s' → (∃ a, Heap.SameBut a s.heap s'.heap ∧ (a = X.env.locals ∨ X.env.cells.lookup x = some a)) → Q () s') (hf : X.fn x = true ∨ X.env.scope.names.lookup x = some .local := by first | exact .inl rfl | exact .inr rfl | assumption) : wpAny M A (storeName X.env x u) Q E s := by
 obtain ⟨m, hn, hl⟩ := id I.loc
 have hcls : (X.env.scope.kind == .class || (X.env.scope.kind == .module && X.env.locals != X.env.globals)) = false := by rw [I.ok.kind]; rfl
 have hiσ : i < σ.length := by rw [I.len]; exact (List.getElem?_eq_some_iff.mp hi).1
 have cne := I.cne
 have tracked : ∀ {a : Addr} {h' : Heap}, (∃ o, s.heap.get? a = some o ∧ H a = none) → Heap.SameBut a s.heap h' → HOk X.prog X.w H h' := fun {a h'} ha hs b ob e => by
   obtain ⟨_, _, hfree⟩ := ha
   refine (I.hok b ob e).stay (fun c w' hc q => (hs.2 c ?_).trans q) (fun _ q => q) fun _ _ q => q
   rintro rfl
   rcases hc with rfl | hc
   · rw [hfree] at e; cases e
   · rw [hfree] at hc; cases hc
 rcases hx with hk | hk
 · refine wpAny_storeName_local hk hn (fun h' hn' hs => ?_) hcls
   obtain ⟨oL, _, _, hoL, _⟩ := id hn
   refine h _ ⟨I.ok, I.os, I.bare, ⟨fun b o e n hb hx => ?_, fun b o e n hb hx => ?_, I.base.free, fun b o e hx => ?_, I.base.tups, I.base.frzs, I.base.tbls⟩, ⟨_, hn', fun j y v' e1 e2 e3 => ?_⟩, fun y c e => ?_, I.free, I.freeC, fun p hp => ?_, tracked ⟨oL, hoL, I.free⟩ hs, by simpa using I.len⟩ ⟨_, hs, .inl rfl⟩
   · exact (hs.2 b (Nat.ne_of_lt (Nat.lt_of_lt_of_le (Heap.lt_size e) I.ok.above))).trans (I.base.keep b o e n hb hx)
   · obtain ⟨sl, e1⟩ := I.base.slot b o e n hb hx
     exact ⟨sl, (hs.2 b (Nat.ne_of_lt (Nat.lt_of_lt_of_le (Heap.lt_size e) I.ok.above))).trans e1⟩
   · obtain ⟨o', e1⟩ := I.base.there b o e hx
     exact ⟨o', (hs.2 b (Nat.ne_of_lt (Nat.lt_of_lt_of_le (Heap.lt_size e) I.ok.above))).trans e1⟩
   · by_cases hj : j = i
     · subst hj
       rw [hi] at e1; cases e1
       rw [List.getElem?_set_self hiσ] at e2
       cases e2
       exact ⟨u, r, .inl ⟨hk, by simp⟩⟩
     · rw [List.getElem?_set_ne (Ne.symm hj)] at e2
       obtain ⟨u', r', q⟩ := hl j y v' e1 e2 e3
       refine ⟨u', r', ?_⟩
       rcases q with ⟨k, e⟩ | ⟨k, c, e, z⟩
       · refine .inl ⟨k, ?_⟩
         have : y ≠ x := fun e => hj (nodup_ix hN e1 (e ▸ hi))
         simp [this, e]
       · exact .inr ⟨k, c, e, z.sameBut hs (cne y c e)⟩
   · obtain ⟨w', z⟩ := I.cell y c e
     exact ⟨w', z.sameBut hs (cne y c e)⟩
   · obtain ⟨e, n, ne, nf, d⟩ := I.pin p hp
     exact ⟨(hs.2 p.1 ne).trans e, n, ne, nf, d⟩
 · have hfn : X.fn x = true := by
     rcases hf with z | z
     · exact z
     · rw [z] at hk; cases hk
   obtain ⟨c, hc⟩ := I.ok.has x (.inl hk)
   obtain ⟨w', z⟩ := I.cell x c hc
   refine wpAny_storeName_cell I.ok.kind hk hc z (fun h' hc' hs => ?_)
   obtain ⟨oc, hoc, hocd⟩ := id z
   refine h { s with heap := h' } ⟨I.ok, I.os, I.bare, ⟨fun b o e n hb hx => ?_, fun b o e n hb hx => ?_, I.base.free, fun b o e hx => ?_, I.base.tups, I.base.frzs, I.base.tbls⟩, ⟨m, hn.sameBut hs (Ne.symm (cne x c hc)), fun j y v' e1 e2 e3 => ?_⟩, fun y c' e => ?_, I.free, I.freeC, fun p hp => ?_, tracked ⟨oc, hoc, I.freeC x c hc⟩ hs, by simpa using I.len⟩ ⟨c, hs, .inr hc⟩
   · exact (hs.2 b (Nat.ne_of_lt (Nat.lt_of_lt_of_le (Heap.lt_size e) (I.ok.cab x c hfn hc)))).trans (I.base.keep b o e n hb hx)
   · obtain ⟨sl, e1⟩ := I.base.slot b o e n hb hx
     exact ⟨sl, (hs.2 b (Nat.ne_of_lt (Nat.lt_of_lt_of_le (Heap.lt_size e) (I.ok.cab x c hfn hc)))).trans e1⟩
   · obtain ⟨o', e1⟩ := I.base.there b o e hx
     exact ⟨o', (hs.2 b (Nat.ne_of_lt (Nat.lt_of_lt_of_le (Heap.lt_size e) (I.ok.cab x c hfn hc)))).trans e1⟩
   · by_cases hj : j = i
     · subst hj
       rw [hi] at e1; cases e1
       rw [List.getElem?_set_self hiσ] at e2
       cases e2
       exact ⟨u, r, .inr ⟨.inl hk, c, hc, hc'⟩⟩
     · rw [List.getElem?_set_ne (Ne.symm hj)] at e2
       obtain ⟨u', r', q⟩ := hl j y v' e1 e2 e3
       refine ⟨u', r', ?_⟩
       rcases q with q | ⟨k, c', e, z'⟩
       · exact .inl q
       · refine .inr ⟨k, c', e, z'.sameBut hs ?_⟩
         rintro rfl
         exact hj (nodup_ix hN e1 (I.ok.inj _ _ _ e hc ▸ hi))
   · by_cases hcc : c' = c
     · subst hcc; exact ⟨_, hc'⟩
     · obtain ⟨w2, z2⟩ := I.cell y c' e
       exact ⟨w2, z2.sameBut hs hcc⟩
   · obtain ⟨e, n, ne, nf, d⟩ := I.pin p hp
     refine ⟨(hs.2 p.1 ?_).trans e, n, ne, nf, d⟩
     intro q
     rw [q, hoc] at e
     have q' : oc = p.2 := Option.some.inj e
     exact d w' (by rw [← q']; exact hocd)
theorem UF {M : Model} {A : Around} {E : Value → Shared → Prop} {i : Nat} {x : Str} {v : V} {u : Value} {Q : Unit → Shared → Prop} (I : Inv X pins σ H s) (hN : X.N.Nodup) (hi : X.N[i]? = some x) (hx : Loc X.env.scope x) (r : RelV v u)
   (h : ∀ s', Inv X pins (σ.set i (some v)) H s' → Q () s') (hf : X.fn x = true ∨ X.env.scope.names.lookup x = some .local := by first | exact .inl rfl | exact .inr rfl | assumption) : wpAny M A (storeName X.env x u) Q E s :=
 store_ok2 I hN hi hx r (fun s' I' _ => h s' I') hf
theorem Inv.call' {s' : Shared} {ch : List Addr} (I : Inv X pins σ H s) (ho : s'.os = s.os) (u : Un (frs X.stack) ch H H' s.heap s'.heap) (hok : HOk X.prog X.w H' s'.heap) (hg : AllBare s'.gens)
   (hch : ∀ b ∈ ch, (b ∈ X.ex ∨ X.s₀.heap.objs.size ≤ b) ∧ b ≠ X.env.locals ∧ (∀ x c, X.env.cells.lookup x = some c → c ≠ b) ∧ ∀ p ∈ X.pn ++ pins, p.1 ≠ b) : Inv X pins σ H' s' := by
 obtain ⟨h', g', d', t', o'⟩ := s'
 have e : o' = s.os := ho
 subst e
 exact I.call (g' := g') (t' := t') (d' := d') u hok hg hch
end
abbrev XK := Value → Option Addr → Hp → Prop
abbrev St := List (Option V)
abbrev VK := V → Hp → Prop
abbrev TE := St → Hp → VK → Prop
abbrev TT := St → Hp → (Bool → Hp → Prop) → Prop
abbrev TA := St → Hp → (List V → Hp → Prop) → Prop
structure Ends where
 nx : St → Hp → Prop
 rt : VK
 bk : St → Hp → Prop := fun _ _ => False
 ct : St → Hp → Prop := fun _ _ => False
abbrev TS := Ends → St → Hp → Prop
def EP (X : Cx) (pins : List (Addr × Obj)) (σ : St) (Q : VK) (u : Value) (s' : Shared) : Prop := ∃ v H', Inv X pins σ H' s' ∧ RelV v u ∧ Q v H'
def TP (X : Cx) (pins : List (Addr × Obj)) (σ : St) (Q : Bool → Hp → Prop) (b : Bool) (s' : Shared) : Prop := ∃ H', Inv X pins σ H' s' ∧ Q b H'
def AP (X : Cx) (pins : List (Addr × Obj)) (σ : St) (Q : List V → Hp → Prop) (us : List Value) (s' : Shared) : Prop := ∃ vs H', Inv X pins σ H' s' ∧ Vals vs us ∧ Q vs H'
def SP (X : Cx) (pins : List (Addr × Obj)) (D : Ends) (f : Flow) (s' : Shared) : Prop :=
 match f with
 | .next => ∃ σ' H', Inv X pins σ' H' s' ∧ D.nx σ' H'
 | .brk => ∃ σ' H', Inv X pins σ' H' s' ∧ D.bk σ' H'
 | .cont => ∃ σ' H', Inv X pins σ' H' s' ∧ D.ct σ' H'
 | .ret u => ∃ v σ' H', Inv X pins σ' H' s' ∧ RelV v u ∧ D.rt v H'
def PE (X : Cx) (e : Expr) (t : TE) : Prop :=
 ∀ (pins : List (Addr × Obj)) (s : Shared) (σ : St) (H : Hp) (Q : VK), Inv X pins σ H s → t σ H Q → wpAny (model X.prog X.w) X.A (eval e X.env) (EP X pins σ Q) X.xe s
def PT (X : Cx) (e : Expr) (t : TT) : Prop :=
 ∀ (pins : List (Addr × Obj)) (s : Shared) (σ : St) (H : Hp) (Q : Bool → Hp → Prop), Inv X pins σ H s → t σ H Q → wpAny (model X.prog X.w) X.A (isTrue e X.env (eval e X.env)) (TP X pins σ Q) X.xe s
def PW (X : Cx) (e : Expr) (t : TT) : Prop :=
 ∀ (whole : Sem Value) (pins : List (Addr × Obj)) (s : Shared) (σ : St) (H : Hp) (Q : Bool → Hp → Prop), Inv X pins σ H s → t σ H Q → wpAny (model X.prog X.w) X.A (isTrue e X.env whole) (TP X pins σ Q) X.xe s
theorem PW.pt {X : Cx} {e : Expr} {t : TT} (h : PW X e t) : PT X e t := h _
def PA (X : Cx) (es : List Expr) (t : TA) : Prop :=
 ∀ (pos : Pos) (pins : List (Addr × Obj)) (s : Shared) (σ : St) (H : Hp) (Q : List V → Hp → Prop), Inv X pins σ H s → t σ H Q → wpAny (model X.prog X.w) X.A (spliced (backTo pos (starEach es X.env))) (AP X pins σ Q) X.xe s
def PS (X : Cx) (st : Stmt) (t : TS) : Prop :=
 ∀ (pins : List (Addr × Obj)) (s : Shared) (σ : St) (H : Hp) (D : Ends), Inv X pins σ H s → t D σ H → wpAny (model X.prog X.w) X.A (exec st X.env) (SP X pins D) X.xe s
def PSs (X : Cx) (st : List Stmt) (t : TS) : Prop :=
 ∀ (pins : List (Addr × Obj)) (s : Shared) (σ : St) (H : Hp) (D : Ends), Inv X pins σ H s → t D σ H → wpAny (model X.prog X.w) X.A (execs st X.env) (SP X pins D) X.xe s
theorem thn {α : Type} {t : Sem α} {Q Q' : α → Shared → Prop} {M : Model} {A : Around} {E : Value → Shared → Prop} {s : Shared} (h : wpAny M A t Q E s) (hQ : ∀ a s, Q a s → Q' a s) : wpAny M A t Q' E s := wpAny_mono h hQ fun _ _ x => x
end L2
namespace L2
open PySem PySem.Spec PyProof.Rows
section
variable {X : Cx}
def tVar (i : Nat) : TE := fun σ H Q => ∃ v, σ[i]? = some (some v) ∧ Q v H
def tC (v : V) : TE := fun _ H Q => Q v H
theorem pe_var {i : Nat} {x : Str} {pos : Pos} (hN : X.N[i]? = some x) (hv : Vis X.env.scope x) (hd : (x == ("__debug__" : Str)) = false := by decide) (hcd : (x == ("__classdict__" : Str)) = false := by decide) : PE X (.Name x pos) (tVar i) := by
 intro pins s σ H Q I h
 obtain ⟨v, e, h⟩ := h
 obtain ⟨m, hn, hl⟩ := I.loc
 obtain ⟨u, r, l⟩ := hl i x v hN e hv
 have fin : EP X pins σ Q u s := ⟨v, H, I, r, h⟩
 rcases l with ⟨hk, hm⟩ | ⟨hk, c, hc, hcell⟩
 · exact wpAny_Name (wpAny_loadName_local I.ok.kind hk hn hm fin) hd
 · rcases hk with hk | hk
   · exact wpAny_Name (wpAny_loadName_cell I.ok.kind hk hc hcell fin) hd
   · exact wpAny_Name (wpAny_loadName_free I.ok.kind hk hc hcell fin hcd) hd
theorem Zj {i j pos} : PE X (.Constant (.int i) j pos) (tC (.int i)) := fun _ _ _ H _ I h => wpAny_Constant_int ⟨.int i, H, I.tok _, ⟨_, rfl⟩, h⟩
theorem pe_bl {b j pos} : PE X (.Constant (.bool b) j pos) (tC (.bl b)) := fun _ _ _ H _ I h => Constant_bool ⟨.bl b, H, I, rfl, h⟩
theorem YM {j pos} : PE X (.Constant .none j pos) (tC .non) := fun _ _ _ H _ I h => Constant_none ⟨.non, H, I, rfl, h⟩
theorem Yc {x j pos} : PE X (.Constant (.str x) j pos) (tC (.str x)) := fun _ _ _ H _ I h => Calls.Constant_str ⟨.str x, H, I.tok _, ⟨_, rfl⟩, h⟩
def Gl (X : Cx) (x : Str) : Prop := X.env.kindOf x = some .globalImplicit
theorem Ut {E : Value → Shared → Prop} {pins : List (Addr × Obj)} {s : Shared} {σ : St} {H : Hp} {x : Str} {u : Value} {pos : Pos} {Q : Value → Shared → Prop} (I : Inv X pins σ H s) (hg : Gl X x) (hm : X.mg x = some u) (h : Q u s)
   (hd : (x == ("__debug__" : Str)) = false := by decide) : wpAny (model X.prog X.w) X.A (eval (.Name x pos) X.env) Q E s :=
 Calls.Name_function_global I.ok.kind hg (Calls.loadGlobal_global (by rw [I.ok.glob]; exact I.mod.glob.keeps I.bk) hm h) hd
theorem VY {E : Value → Shared → Prop} {pins : List (Addr × Obj)} {s : Shared} {σ : St} {H : Hp} {x : Str} {u : Value} {pos : Pos} {Q : Value → Shared → Prop} (I : Inv X pins σ H s) (hg : Gl X x) (hm : X.mg x = none) (hv : bootBuiltins x = some u) (h : Q u s)
   (hn : x ≠ "__name__" := by decide) (hd : (x == ("__debug__" : Str)) = false := by decide) : wpAny (model X.prog X.w) X.A (eval (.Name x pos) X.env) Q E s := by
 obtain ⟨mb, h1, h2⟩ := I.mod.blt
 exact Calls.Name_function_global I.ok.kind hg (Calls.loadGlobal_builtin (by rw [I.ok.glob]; exact I.mod.glob.keeps I.bk) hm (by rw [I.ok.blt]; exact h1.keeps I.bk) ((h2 x hn).trans hv) h) hd
theorem pe_glob {x : Str} {v : V} {u : Value} {pos : Pos} (hg : Gl X x) (hm : X.mg x = some u) (r : RelV v u) (hd : (x == ("__debug__" : Str)) = false := by decide) : PE X (.Name x pos) (tC v) :=
 fun _ _ _ H _ I h => Ut I hg hm ⟨v, H, I, r, h⟩ hd
theorem pe_bltn {x : Str} {v : V} {u : Value} {pos : Pos} (hg : Gl X x) (hm : X.mg x = none) (hv : bootBuiltins x = some u) (r : RelV v u) (hn : x ≠ "__name__" := by decide) (hd : (x == ("__debug__" : Str)) = false := by decide) : PE X (.Name x pos) (tC v) :=
 fun _ _ _ H _ I h => VY I hg hm hv ⟨v, H, I, r, h⟩ hn hd
variable {a b : Expr} {ta tb : TE} {pos : Pos}
def PC (X : Cx) (op : CmpOp) (a b : Expr) (t : TE) : Prop :=
 ∀ (pins : List (Addr × Obj)) (s : Shared) (σ : St) (H : Hp) (Q : VK), Inv X pins σ H s → t σ H Q →
   wpAny (model X.prog X.w) X.A (eval a X.env) (fun v s₁ => wpAny (model X.prog X.w) X.A (eval b X.env) (fun u s₂ => wpAny (model X.prog X.w) X.A (compareOp op v u) (EP X pins σ Q) X.xe s₂) X.xe s₁) X.xe s
def tB (t : TE) : TT := fun σ H Q => t σ H fun x H1 => ∃ c, x = .bl c ∧ Q c H1
theorem pt_cmp {op : CmpOp} {t : TE} (h : PC X op a b t) (h1 : behindInMarks op b = false := by first | exact nobehind _ (by decide) (by decide) | rfl) : PT X (.Compare a [op] [b] pos) (tB t) := by
 intro pins s σ H Q I hw
 refine wpAny_isTrue_Compare1 (thn (h pins s σ H _ I hw) fun v s1 h1 => thn h1 fun u s2 h2 => thn h2 fun c s3 ⟨x, H1, I1, r1, q1⟩ => ?_) h1
 obtain ⟨d, rfl, q⟩ := q1
 cases r1
 exact wpAny_truthy_bool ⟨H1, I1, q⟩
variable {tA tB' : TT} {rest : List Expr}
def tAnd (t u : TT) : TT := fun σ H Q => t σ H fun c H1 => if c = true then u σ H1 Q else Q false H1
def tOr (t u : TT) : TT := fun σ H Q => t σ H fun c H1 => if c = true then Q true H1 else u σ H1 Q
def tNot (t : TT) : TT := fun σ H Q => t σ H fun c H1 => Q (!c) H1
theorem Ss (ha : PT X a tA) : PW X (.BoolOp .And [a] pos) tA := by
 intro wh pins s σ H Q I h
 refine isTrue_and (thn (ha pins s σ H Q I h) fun c s1 e => ?_)
 cases c with
 | true => exact isTrue_and_nil e
 | false => exact e
theorem pw_or1 (ha : PT X a tA) : PW X (.BoolOp .Or [a] pos) tA := by
 intro wh pins s σ H Q I h
 refine isTrue_or (thn (ha pins s σ H Q I h) fun c s1 e => ?_)
 cases c with
 | false => exact isTrue_or_nil e
 | true => exact e
theorem pw_and (ha : PT X a tA) (hb : PW X (.BoolOp .And (b :: rest) pos) tB') : PW X (.BoolOp .And (a :: b :: rest) pos) (tAnd tA tB') := by
 intro wh pins s σ H Q I h
 refine isTrue_and (thn (ha pins s σ H _ I h) fun c s1 ⟨H1, I1, q1⟩ => ?_)
 cases c with
 | true => exact hb wh pins s1 σ H1 Q I1 q1
 | false => exact ⟨H1, I1, q1⟩
theorem pw_or (ha : PT X a tA) (hb : PW X (.BoolOp .Or (b :: rest) pos) tB') : PW X (.BoolOp .Or (a :: b :: rest) pos) (tOr tA tB') := by
 intro wh pins s σ H Q I h
 refine isTrue_or (thn (ha pins s σ H _ I h) fun c s1 ⟨H1, I1, q1⟩ => ?_)
 cases c with
 | true => exact ⟨H1, I1, q1⟩
 | false => exact hb wh pins s1 σ H1 Q I1 q1
theorem pt_not (ha : PT X a tA) : PT X (.UnaryOp .Not a pos) (tNot tA) := by
 intro pins s σ H Q I h
 exact isTrue_not (ha pins s σ H (fun c H1 => Q (!c) H1) I h)
def tAndV (ta tb : TE) : TE := fun σ H Q => ta σ H fun x H1 => ∃ c, x = .bl c ∧ if c = true then tb σ H1 Q else Q (.bl false) H1
def tNotV (ta : TE) : TE := fun σ H Q => ta σ H fun x H1 => ∃ c, x = .bl c ∧ Q (.bl (!c)) H1
theorem pe_one {op} {t : TE} (h : PE X a t) : PE X (.BoolOp op [a] pos) t := fun pins s σ H Q I hw => BoolOp_one (h pins s σ H Q I hw)
theorem pe_and (ha : PE X a ta) (hb : PE X (.BoolOp .And (b :: rest) pos) tb) : PE X (.BoolOp .And (a :: b :: rest) pos) (tAndV ta tb) := by
 intro pins s σ H Q I h
 refine BoolOp_and (thn (ha pins s σ H _ I h) fun v s1 ⟨x, H1, I1, r1, q1⟩ => ?_)
 obtain ⟨c, rfl, q1⟩ := q1
 cases r1
 refine wpAny_truthy_bool ?_
 cases c with
 | true => exact hb pins s1 σ H1 Q I1 q1
 | false => exact ⟨.bl false, H1, I1, rfl, q1⟩
theorem pe_not (ha : PE X a ta) : PE X (.UnaryOp .Not a pos) (tNotV ta) := by
 intro pins s σ H Q I h
 refine UnaryOp_ (thn (ha pins s σ H _ I h) fun v s1 ⟨x, H1, I1, r1, q1⟩ => ?_)
 obtain ⟨c, rfl, q1⟩ := q1
 cases r1
 exact not_of (wpAny_truthy_bool ⟨.bl (!c), H1, I1, rfl, q1⟩)
end
end L2
namespace L2
open PySem PySem.Spec PyProof.Rows
def SqL (K : W.Frag) (H : Hp) (a : Addr) (xs : List V) : Prop :=
 Rd H a (.lst xs) ∨
   ∃ (o : Obj) (its : Array Value) (n : Nat), K.lookup a = some o ∧ o.cls = .type "list" ∧ o.dict = none ∧ o.data = .seq its n ∧ its.size ≤ sizeLine ∧ Vals xs its.toList
def SqT (K : W.Frag) (H : Hp) (a : Addr) (xs : List V) : Prop :=
 Rd H a (.tup xs) ∨
   ∃ (o : Obj) (its : Array Value) (n : Nat), K.lookup a = some o ∧ o.cls = .type "tuple" ∧ o.data = .seq its n ∧ its.size ≤ sizeLine ∧ Vals xs its.toList
def absV : Value → Option V
 | .none => some .non
 | .bool b => some (.bl b)
 | .int i _ => some (.int i)
 | .str x _ => some (.str x)
 | .bytes b _ => some (.byt b)
 | .float b _ => some (.flt b)
 | .ref a => some (.ref a)
 | .type n => some (.ty n)
 | _ => none
theorem RelV.abs {x : V} {u : Value} (r : RelV x u) : absV u = some x := by
 cases x with
 | non => cases r; rfl
 | bl _ => cases r; rfl
 | int _ => obtain ⟨t, rfl⟩ := r; rfl
 | str _ => obtain ⟨t, rfl⟩ := r; rfl
 | byt _ => obtain ⟨t, rfl⟩ := r; rfl
 | flt _ => obtain ⟨t, rfl⟩ := r; rfl
 | ref _ => cases r; rfl
 | ty _ => cases r; rfl
theorem RelV.inj {x y : V} {u : Value} (r : RelV x u) (q : RelV y u) : x = y := Option.some.inj (r.abs.symm.trans q.abs)
theorem Vals.inj : ∀ {xs ys : List V} {us : List Value}, Vals xs us → Vals ys us → xs = ys
 | _, _, _, .nil, .nil => rfl
 | _, _, _, .cons r t, .cons r' t' => by rw [r.inj r', Vals.inj t t']
section
variable {X : Cx} {pins : List (Addr × Obj)} {σ : St} {H : Hp} {s : Shared} {a : Addr} {xs ys : List V}
theorem SqL.of {K : W.Frag} (h : H a = some (.lst xs)) : SqL K H a xs := .inl (.inl h)
theorem SqT.of {K : W.Frag} (h : H a = some (.tup xs)) : SqT K H a xs := .inl (.inl h)
theorem Inv.list (I : Inv X pins σ H s) (h : SqL X.K H a xs) : ∃ its : List Value, Vals xs its ∧ PlainL s.heap a its.toArray ∧ xs.length ≤ sizeLine := by
 rcases h with h | ⟨o, its, n, hk, hc, hd, hs, hz, r⟩
 · obtain ⟨z, its, n, r, e⟩ := h.ok I.hok
   exact ⟨its, r, ⟨_, n, e, rfl, rfl, rfl⟩, z⟩
 · refine ⟨its.toList, r, ⟨o, n, I.kIn a o hk, hc, hd, by simpa using hs⟩, ?_⟩
   have e := r.length
   simp only [Array.length_toList] at e
   omega
theorem Inv.tuple (I : Inv X pins σ H s) (h : SqT X.K H a xs) : ∃ its : List Value, Vals xs its ∧ IsTup s.heap a its.toArray ∧ xs.length ≤ sizeLine := by
 rcases h with h | ⟨o, its, n, hk, hc, hs, hz, r⟩
 · obtain ⟨z, its, r, p⟩ := h.ok I.hok
   exact ⟨its, r, p, z⟩
 · refine ⟨its.toList, r, ⟨o, I.kIn a o hk, hc, n, by simpa using hs⟩, ?_⟩
   have e := r.length
   simp only [Array.length_toList] at e
   omega
theorem Inv.list_inj (I : Inv X pins σ H s) (h : SqL X.K H a xs) (h' : SqL X.K H a ys) : xs = ys := by
 obtain ⟨its, r, ⟨o, n, e, _, _, d⟩, _⟩ := I.list h
 obtain ⟨its', r', ⟨o', n', e', _, _, d'⟩, _⟩ := I.list h'
 rw [e] at e'; cases e'
 rw [d] at d'
 injection d' with d1 _
 have : its = its' := by simpa using congrArg Array.toList d1
 subst this
 exact r.inj r'
theorem Inv.tuple_inj (I : Inv X pins σ H s) (h : SqT X.K H a xs) (h' : SqT X.K H a ys) : xs = ys := by
 obtain ⟨its, r, ⟨o, e, _, n, d⟩, _⟩ := I.tuple h
 obtain ⟨its', r', ⟨o', e', _, n', d'⟩, _⟩ := I.tuple h'
 rw [e] at e'; cases e'
 rw [d] at d'
 injection d' with d1 _
 have : its = its' := by simpa using congrArg Array.toList d1
 subst this
 exact r.inj r'
end
abbrev Cx.wish (X : Cx) (E : Value → Shared → Prop) : Cx := { X with xe := E }
abbrev Cx.nox (X : Cx) : Cx := X.wish fun _ _ => False
theorem Cx.Ok.wish {X : Cx} (ok : X.Ok) (E : Value → Shared → Prop) : (X.wish E).Ok :=
 ⟨ok.mod, ok.kind, ok.glob, ok.blt, ok.above, ok.inj, ok.has, ok.cab, ok.hd, ok.frames, ok.stk, ok.exf, ok.bs, ok.bsz, ok.noex, ok.exfs, ok.funs, ok.frf⟩
theorem Cx.Ok.unwish {X : Cx} {E : Value → Shared → Prop} (ok : (X.wish E).Ok) : X.Ok :=
 ⟨ok.mod, ok.kind, ok.glob, ok.blt, ok.above, ok.inj, ok.has, ok.cab, ok.hd, ok.frames, ok.stk, ok.exf, ok.bs, ok.bsz, ok.noex, ok.exfs, ok.funs, ok.frf⟩
section
variable {X : Cx} {pins : List (Addr × Obj)} {σ : St} {H : Hp} {s : Shared} {E : Value → Shared → Prop}
theorem Inv.wish (I : Inv X pins σ H s) (E : Value → Shared → Prop) : Inv (X.wish E) pins σ H s := ⟨I.ok.wish E, I.os, I.bare, I.base, I.loc, I.cell, I.free, I.freeC, I.pin, I.hok, I.len⟩
theorem Inv.unwish (I : Inv (X.wish E) pins σ H s) : Inv X pins σ H s := ⟨I.ok.unwish, I.os, I.bare, I.base, I.loc, I.cell, I.free, I.freeC, I.pin, I.hok, I.len⟩
theorem SP.unwish {D : Ends} {f : Flow} {s' : Shared} (h : SP (X.wish E) pins D f s') : SP X pins D f s' := by
 cases f with
 | next => obtain ⟨σ', H', I, q⟩ := h; exact ⟨σ', H', I.unwish, q⟩
 | brk => obtain ⟨σ', H', I, q⟩ := h; exact ⟨σ', H', I.unwish, q⟩
 | cont => obtain ⟨σ', H', I, q⟩ := h; exact ⟨σ', H', I.unwish, q⟩
 | ret u => obtain ⟨v, σ', H', I, r, q⟩ := h; exact ⟨v, σ', H', I.unwish, r, q⟩
theorem PSs.nox {st : List Stmt} {t : TS} (h : PSs X.nox st t) : PSs X st t := fun pins s σ H D I hw =>
 wpAny_mono (h pins s σ H D (I.wish _) hw) (fun _ _ q => q.unwish) fun _ _ z => False.elim z
end
section
variable {X : Cx} {st : Stmt} {rest : List Stmt} {t u : TS} {e : Expr} {te : TE} {pos : Pos}
def tNext : TS := fun D σ H => D.nx σ H
def tSeq (t u : TS) : TS := fun D σ H => t { D with nx := u D } σ H
theorem Yf : PSs X [] tNext := fun _ _ σ H _ I h => wpAny_execs_nil ⟨σ, H, I, h⟩
theorem Zg (h1 : PS X st t) (h2 : PSs X rest u) : PSs X (st :: rest) (tSeq t u) := by
 intro pins s σ H D I h
 refine wpAny_execs_cons (thn (h1 pins s σ H { D with nx := u D } I h) fun f s1 q => ?_)
 cases f with
 | next =>
   obtain ⟨σ', H', I', q⟩ := q
   exact h2 pins s1 σ' H' D I' q
 | ret v => exact q
 | brk => exact q
 | cont => exact q
theorem Zi (h1 : PS X st t) : PSs X [st] t := by
 intro pins s σ H D I h
 refine wpAny_execs_cons (thn (h1 pins s σ H D I h) fun f s1 q => ?_)
 cases f with
 | next => exact wpAny_execs_nil q
 | ret v => exact q
 | brk => exact q
 | cont => exact q
theorem Inv.quiet {pins : List (Addr × Obj)} {σ : St} {H : Hp} {s : Shared} (I : Inv X pins σ H s) : interactive X.env = false := by simp [interactive, I.ok.kind]
def tDrop (te : TE) : TS := fun D σ H => te σ H fun _ H1 => D.nx σ H1
theorem ZK (he : PE X e te) (hs : swapsWith e none pos.line X.env = pure false := by rfl) : PS X (.Expr e pos) (tDrop te) := by
 intro pins s σ H D I h
 exact wpAny_Expr_any (thn (he pins s σ H _ I h) fun v s1 ⟨x, H1, I1, r1, q1⟩ => ⟨σ, H1, I1, q1⟩) I.quiet hs
def tRet (te : TE) : TS := fun D σ H => te σ H D.rt
theorem ZA (he : PE X e te) : PS X (.Return (some e) pos) (tRet te) := by
 intro pins s σ H D I h
 exact wpAny_Return_some (thn (he pins s σ H _ I h) fun v s1 ⟨x, H1, I1, r1, q1⟩ => ⟨x, σ, H1, I1, r1, q1⟩)
def tIfS (c : TT) (t u : TS) : TS := fun D σ H => c σ H fun b H1 => if b = true then t D σ H1 else u D σ H1
theorem YC {c : Expr} {a b : List Stmt} {tc : TT} (hc : PT X c tc) (ha : PSs X a t) (hb : PSs X b u) : PS X (.If c a b pos) (tIfS tc t u) := by
 intro pins s σ H D I h
 refine wpAny_If (thn (hc pins s σ H _ I h) fun d s1 ⟨H1, I1, q1⟩ => ?_)
 cases d with
 | true => exact ha pins s1 σ H1 D I1 q1
 | false => exact hb pins s1 σ H1 D I1 q1
end
abbrev TG := V → St → Hp → (St → Hp → Prop) → Prop
abbrev TGs := List V → St → Hp → (St → Hp → Prop) → Prop
def PG (X : Cx) (target : Expr) (t : TG) : Prop :=
 ∀ (pins : List (Addr × Obj)) (s : Shared) (σ : St) (H : Hp) (v : V) (u : Value) (Q : St → Hp → Prop), Inv X pins σ H s → RelV v u → t v σ H Q →
   wpAny (model X.prog X.w) X.A (assign target X.env u) (fun _ s' => ∃ σ' H', Inv X pins σ' H' s' ∧ Q σ' H') X.xe s
def PGs (X : Cx) (ts : List Expr) (t : TGs) : Prop :=
 ∀ (pins : List (Addr × Obj)) (s : Shared) (σ : St) (H : Hp) (vs : List V) (us : List Value) (Q : St → Hp → Prop), Inv X pins σ H s → Vals vs us → t vs σ H Q →
   wpAny (model X.prog X.w) X.A (assignInOrder ((assignEach ts X.env).map (·.2)) us) (fun _ s' => ∃ σ' H', Inv X pins σ' H' s' ∧ Q σ' H') X.xe s
section
variable {X : Cx} {pos : Pos}
def gName (i : Nat) : TG := fun v σ H Q => Q (σ.set i (some v)) H
theorem Ym {i : Nat} {x : Str} (hN : X.N.Nodup) (hi : X.N[i]? = some x) (hx : Loc X.env.scope x) (hf : X.fn x = true ∨ X.env.scope.names.lookup x = some .local := by first | exact .inl rfl | exact .inr rfl | assumption) : PG X (.Name x pos) (gName i) := by
 intro pins s σ H v u Q I r h
 exact wpAny_assign_Name (UF I hN hi hx r (fun s' I' => ⟨_, H, I', h⟩) hf)
def gNil : TGs := fun vs σ H Q => vs = [] ∧ Q σ H
def gCons (t : TG) (u : TGs) : TGs := fun vs σ H Q => ∃ v r, vs = v :: r ∧ t v σ H fun σ' H' => u r σ' H' Q
theorem Ur : PGs X [] gNil := by
 intro pins s σ H vs us Q I r h
 obtain ⟨e, h⟩ := h
 subst e
 cases r
 exact assignInOrder_nil ⟨σ, H, I, h⟩
theorem YS {e : Expr} {es : List Expr} {t : TG} {u : TGs} (h1 : PG X e t) (h2 : PGs X es u)
   (hs : (assignEach (e :: es) X.env).map (·.2) = assign e X.env :: (assignEach es X.env).map (·.2) := by rfl) : PGs X (e :: es) (gCons t u) := by
 intro pins s σ H vs us Q I r h
 obtain ⟨v, vr, e1, h⟩ := h
 subst e1
 cases r with
 | cons r rr =>
   rw [hs]
   refine assignInOrder_cons (thn (h1 pins s σ H _ _ _ I r h) fun _ s1 ⟨σ1, H1, I1, q1⟩ => ?_)
   exact h2 pins s1 σ1 H1 _ _ Q I1 rr q1
def gTup (K : W.Frag) (n : Nat) (t : TGs) : TG := fun v σ H Q => ∃ a xs, v = .ref a ∧ SqT K H a xs ∧ xs.length = n ∧ t xs σ H Q
theorem Su {es : List Expr} {k : Nat} {t : TGs} {n : Nat} (hc : X.calm = true) (h : PGs X es t)
   (hn : (assignEach es X.env).length = n := by rfl) (hst : (assignEach es X.env).findIdx? (·.1) = none := by rfl) : PG X (.Tuple es k pos) (gTup X.K n t) := by
 intro pins s σ H v u Q I r hw
 obtain ⟨a, xs, e1, hq, hl, hw⟩ := hw
 subst e1
 cases r
 obtain ⟨its, rv, ht, hz⟩ := I.tuple hq
 refine assign_Tuple_tuple (I.ok.hd hc) ht (by simp [hn, ← hl, rv.length]) hst fun h' hx => ?_
 have I1 : Inv X pins σ H { s with heap := h' } := I.kept (t' := s.toks) fun b o e => hx b o (Nat.ne_of_lt (Heap.lt_size e)) e
 exact h pins _ σ H xs _ Q I1 (by simpa using rv) hw
def tAsg (te : TE) (g : TG) : TS := fun D σ H => te σ H fun x H1 => g x σ H1 D.nx
theorem ps_asg {tg e : Expr} {te : TE} {g : TG} (he : PE X e te) (hg : PG X tg g) (hs : swapsWithSole [tg] e pos.line X.env = pure false := by rfl) (hw : swappedStores [tg] e X.env = pure none := by rfl)
   (h1 : (assignEach [tg] X.env).map (·.2) = [assign tg X.env] := by rfl) : PS X (.Assign [tg] e pos) (tAsg te g) := by
 intro pins s σ H D I h
 refine wpAny_Assign_stores (thn (he pins s σ H _ I h) fun v s1 ⟨x, H1, I1, r1, q1⟩ => ?_) hs hw
 rw [h1]
 exact thn (hg pins s1 σ H1 x v _ I1 r1 q1) fun _ s2 q => q
theorem Zs {i : Nat} {x : Str} {e : Expr} {te : TE} {pos' : Pos} (hN : X.N.Nodup) (hi : X.N[i]? = some x) (hx : Loc X.env.scope x) (he : PE X e te) (hs : swapsWith e (some (.Name x pos')) pos.line X.env = pure false := by rfl) (hf : X.fn x = true ∨ X.env.scope.names.lookup x = some .local := by first | exact .inl rfl | exact .inr rfl | assumption) :
   PS X (.Assign [.Name x pos'] e pos) (tAsg te (gName i)) := by
 intro pins s σ H D I h
 refine wpAny_Assign_Name (thn (he pins s σ H _ I h) fun v s1 ⟨y, H1, I1, r1, q1⟩ => ?_) hs
 exact UF I1 hN hi hx r1 (fun s2 I2 => ⟨_, H1, I2, q1⟩) hf
end
section
variable {X : Cx} {pos : Pos}
def tWhile (c : TT) (tb : TS) : TS := fun D σ H => ∃ W : Nat → St → Hp → Prop, (∃ m, W m σ H) ∧ ∀ m σ H, W m σ H →
 c σ H fun b H1 => if b = true then ∃ N : St → Hp → Prop, (∀ σ' H', N σ' H' → ∃ m', m' < m ∧ W m' σ' H') ∧ tb { D with nx := N, ct := N, bk := D.nx } σ H1 else D.nx σ H1
theorem ps_while {c : Expr} {body : List Stmt} {tc : TT} {tb : TS} (hp : PassesOwn (model X.prog X.w) X.A X.env X.xe) (hc : PT X c tc) (hb : PSs X body tb) : PS X (.While c body [] pos) (tWhile tc tb) := by
 intro pins s σ H D I h
 obtain ⟨W, ⟨m0, w0⟩, turn⟩ := h
 refine wpAny_While (codeAny_whileLoop (fun n s' => ∃ σ' H', Inv X pins σ' H' s' ∧ W n σ' H') ?_ m0 ⟨σ, H, I, w0⟩)
 rintro n s1 ⟨σ1, H1, I1, w1⟩
 refine wpAny_passesOwn hp (thn (hc pins s1 σ1 H1 _ I1 (turn n σ1 H1 w1)) fun b s2 ⟨H2, I2, q2⟩ => ?_)
 cases b with
 | true =>
   obtain ⟨N, hN, q2⟩ := q2
   rw [if_pos rfl]
   refine wpAny_passesOwn hp (thn (hb pins s2 σ1 H2 _ I2 q2) fun f s3 q3 => ?_)
   cases f with
   | next =>
     obtain ⟨σ3, H3, I3, n3⟩ := q3
     obtain ⟨m', hm, w3⟩ := hN σ3 H3 n3
     exact ⟨m', hm, σ3, H3, I3, w3⟩
   | cont =>
     obtain ⟨σ3, H3, I3, n3⟩ := q3
     obtain ⟨m', hm, w3⟩ := hN σ3 H3 n3
     exact ⟨m', hm, σ3, H3, I3, w3⟩
   | brk => exact q3
   | ret v => exact q3
 | false =>
   rw [if_neg Bool.false_ne_true]
   exact wpAny_execs_nil ⟨σ1, H2, I2, q2⟩
end
structure It where
 go : Nat → Hp → Prop
 yld : Nat → Hp → V → Hp → Prop
 stop : Nat → Hp → Prop
def FpOk (X : Cx) (pins : List (Addr × Obj)) (H : Hp) (b : Addr) : Prop :=
 H b = none ∧ b ≠ X.env.locals ∧ b ∉ X.fs ∧ (b ∈ X.ex ∨ X.s₀.heap.objs.size ≤ b) ∧ (∀ x c, X.env.cells.lookup x = some c → c ≠ b) ∧ ∀ p ∈ X.pn ++ pins, p.1 ≠ b
theorem Inv.fpOk {X : Cx} {pins : List (Addr × Obj)} {σ : St} {H H' : Hp} {s : Shared} {b : Addr} (I : Inv X pins σ H s) (hb : s.heap.objs.size ≤ b) (hn : H' b = none) : FpOk X pins H' b := by
 refine ⟨hn, Nat.ne_of_gt (Nat.lt_of_lt_of_le I.lt hb), I.nofs hb, .inr (Nat.le_trans I.sz hb), fun x c e z => ?_, fun p hp z => ?_⟩
 · obtain ⟨v, q⟩ := I.cell x c e
   exact absurd (Nat.lt_of_lt_of_le q.lt (by rw [z]; exact hb)) (Nat.lt_irrefl _)
 · exact absurd (Nat.lt_of_lt_of_le (Heap.lt_size (I.pin p hp).1) (by rw [z]; exact hb)) (Nat.lt_irrefl _)
structure Turn (P : Program) (w : World) (K : W.Frag) (tg : Expr) (J : It) (fp : List Addr) (it : Addr) (tn : Nat → Heap → Prop) : Prop where
 mem : it ∈ fp
 obj : ∀ i h, tn i h → ∀ b ∈ fp, ∃ o, h.get? b = some o ∧ ∀ v, o.data ≠ .cell v
 keep : ∀ i h h', tn i h → (∀ b ∈ fp, ∀ o, h.get? b = some o → h'.get? b = some o) → tn i h'
 item : ∀ (X : Cx), X.prog = P → X.w = w → X.K = K → X.calm = true → ∀ (i : Nat) (pins : List (Addr × Obj)) (s : Shared) (σ : St) (H : Hp) (E : Value → Shared → Prop), Inv X pins σ H s → (∀ b ∈ fp, FpOk X pins H b) → tn i s.heap → J.go i H →
   wpAny (model P w) X.A (pyNext (.ref it)) (fun r s1 => ∃ u, r = some u ∧
     wpAny (model P w) X.A (letOwnedTupleGo tg (.ref it) u) (fun _ s2 => ∃ x H', Inv X pins σ H' s2 ∧ RelV x u ∧ J.yld i H x H' ∧ tn (i + 1) s2.heap ∧ ∀ b ∈ fp, H' b = none) E s1) E s
 done : ∀ (X : Cx), X.prog = P → X.w = w → X.K = K → X.calm = true → ∀ (i : Nat) (pins : List (Addr × Obj)) (s : Shared) (σ : St) (H : Hp) (E : Value → Shared → Prop), Inv X pins σ H s → (∀ b ∈ fp, FpOk X pins H b) → tn i s.heap → J.stop i H →
   wpAny (model P w) X.A (pyNext (.ref it)) (fun r s1 => r = none ∧ Inv X pins σ H s1) E s
 self : ∀ (A : Around) (i : Nat) (s : Shared) (Q : Value → Shared → Prop) (E : Value → Shared → Prop), tn i s.heap → Q (.ref it) s → wpAny (model P w) A (pyIter (.ref it)) Q E s
abbrev TI := St → Hp → (It → Hp → Prop) → Prop
def PIE (X : Cx) (pins : List (Addr × Obj)) (σ : St) (tg : Expr) (R : It → Hp → Prop) (itv : Value) (s2 : Shared) : Prop :=
 ∃ (it : Addr) (fp : List Addr) (tn : Nat → Heap → Prop) (J : It) (H' : Hp), itv = .ref it ∧ Inv X pins σ H' s2 ∧ Turn X.prog X.w X.K tg J fp it tn ∧ tn 0 s2.heap ∧ (∀ b ∈ fp, FpOk X pins H' b) ∧ R J H'
def PI (X : Cx) (tg iter : Expr) (wi : TI) : Prop :=
 ∀ (pins : List (Addr × Obj)) (s : Shared) (σ : St) (H : Hp) (R : It → Hp → Prop), Inv X pins σ H s → wi σ H R →
   wpAny (model X.prog X.w) X.A (eval iter X.env) (fun v s1 => wpAny (model X.prog X.w) X.A (pyIter v) (PIE X pins σ tg R) X.xe s1) X.xe s
theorem go_of {M : Model} {A : Around} {E : Value → Shared → Prop} {s : Shared} {tg : Expr} {it : Addr} {u : Value} {o : Obj} {n : String} {vs : Array Value} {Q : Unit → Shared → Prop} (ho : s.heap.get? it = some o) (hc : o.cls = .type n) (hd : o.data = .fields vs)
   (hn : ["enumerate", "zip", "dict_itemiterator", "dict_reverseitemiterator", "odict_iterator", "itertools.zip_longest", "itertools.pairwise"].contains n = false) (hQ : Q () s) : wpAny M A (letOwnedTupleGo tg (.ref it) u) Q E s := by
 unfold letOwnedTupleGo
 cases tg <;> first
   | exact wpAny_pure hQ
   | (cases u <;> first
       | exact wpAny_pure hQ
       | (refine wpAny_bind (wpAny_load ho ?_)
          rw [hc, hd]
          show wpAny M A (if (["enumerate", "zip", "dict_itemiterator", "dict_reverseitemiterator", "odict_iterator", "itertools.zip_longest", "itertools.pairwise"].contains n && vs[0]? == some (rawInt _)) = true then _ else _) Q E s
          rw [if_neg (by intro h; rw [hn, Bool.false_and] at h; cases h)]
          exact wpAny_pure hQ))
def Itl (K : W.Frag) (a : Addr) : It :=
 ⟨fun i H => ∃ xs x, SqL K H a xs ∧ xs[i]? = some x, fun i H x H' => H' = H ∧ ∀ xs, SqL K H a xs → xs[i]? = some x, fun i H => ∃ xs, SqL K H a xs ∧ xs.length ≤ i⟩
def Itr (lo : Int) (n : Nat) : It := ⟨fun i _ => i < n, fun i H x H' => H' = H ∧ x = .int (lo + i), fun i _ => n ≤ i⟩
theorem turn_list {P : Program} {w : World} {K : W.Frag} {tg : Expr} (a it : Addr) : Turn P w K tg (Itl K a) [it] it (fun i h => h.IsListIter it a i) where
 mem := by simp
 obj := fun i h st b hb => by
   have e : b = it := by simpa using hb
   subst e
   obtain ⟨o, e, c, d⟩ := st
   exact ⟨o, e, fun v z => by rw [d] at z; cases z⟩
 keep := fun i h h' st k => st.at fun o e => k it (by simp) o e
 item := by
   intro X hP hw hK hc i pins s σ H E I hf st hg
   subst hP hw hK
   obtain ⟨xs, x, hq, hx⟩ := hg
   obtain ⟨its, rv, p, hz⟩ := I.list hq
   obtain ⟨u, hu, ru⟩ := rv.get hx
   obtain ⟨f0, f1, f2, f3, f4, f5⟩ := hf it (by simp)
   refine wpAny_pyNext_list_item st p.isList (x := u) (by simpa using hu) fun h' st' sb => ?_
   have I1 : Inv X pins σ H { s with heap := h' } := I.turned (t' := s.toks) (fun b o hb e => (sb.2 b hb).trans e) f0 f1 f3 f4 f5
   obtain ⟨o, e, c, d⟩ := id st'
   exact ⟨u, rfl, go_of (s := { s with heap := h' }) e c d (by decide) ⟨x, H, I1, ru, ⟨rfl, fun ys hy => by rw [I.list_inj hy hq]; exact hx⟩, st', fun b hb => (hf b hb).1⟩⟩
 done := by
   intro X hP hw hK hc i pins s σ H E I hf st hg
   subst hP hw hK
   obtain ⟨xs, hq, hx⟩ := hg
   obtain ⟨its, rv, p, hz⟩ := I.list hq
   obtain ⟨f0, f1, f2, f3, f4, f5⟩ := hf it (by simp)
   have hl := rv.length
   exact wpAny_pyNext_list_end (I.ok.hd hc) st p.isList (by simp; omega) fun h' eb => ⟨rfl, I.turned (t' := s.toks) (fun b o hb e => eb b o hb e) f0 f1 f3 f4 f5⟩
 self := fun _ _ _ _ _ st h => wpAny_pyIter_listiter st h
theorem turn_range {P : Program} {w : World} {K : PySem.W.Frag} {tg : Expr} (it : Addr) (lo : Int) (n : Nat) : Turn P w K tg (Itr lo n) [it] it (fun i h => IsRangeIter h it (lo + (i : Nat) * 1) ((n : Int) - (i : Nat)) 1) where
 mem := by simp
 obj := fun i h st b hb => by
   have e : b = it := by simpa using hb
   subst e
   exact ⟨_, st, fun v z => by
     have z' : Data.fields _ = Data.cell v := z
     cases z'⟩
 keep := fun i h h' st k => k it (by simp) _ st
 item := by
   intro X hP hw hK hc i pins s σ H E I hf st hg
   subst hP hw hK
   obtain ⟨f0, f1, f2, f3, f4, f5⟩ := hf it (by simp)
   have W := Walks.range (prog := X.prog) (w := X.w) (I.ok.hd hc) it lo 1 n
   refine W.item i s _ _ hg st fun v h' tk hv st' kk => ?_
   obtain ⟨t, rfl⟩ := hv
   have I1 : Inv X pins σ H { s with heap := h', toks := tk } := I.turned (fun b o hb e => kk b o (by simpa using hb) e) f0 f1 f3 f4 f5
   refine ⟨_, rfl, go_of (s := { s with heap := h', toks := tk }) (n := "range_iterator") st' rfl rfl (by decide) ⟨.int (lo + i), H, I1, ⟨t, ?_⟩, ⟨rfl, rfl⟩, st', fun b hb => (hf b hb).1⟩⟩
   rw [Int.mul_one]
 done := by
   intro X hP hw hK hc i pins s σ H E I hf st hg
   subst hP hw hK
   obtain ⟨f0, f1, f2, f3, f4, f5⟩ := hf it (by simp)
   exact wpAny_pyNext_range_end (I.ok.hd hc) st (by have : n ≤ i := hg; omega) fun h' eb => ⟨rfl, I.turned (t' := s.toks) (fun b o hb e => eb b o hb e) f0 f1 f3 f4 f5⟩
 self := fun _ _ _ _ _ st h => wpAny_pyIter_rangeiter st h
end L2
namespace L2
open PySem PySem.Spec PyProof.Rows
section
variable {X : Cx} {tg : Expr}
def iList (K : W.Frag) (tl : TE) : TI := fun σ H R => tl σ H fun x H1 => ∃ a, x = .ref a ∧ (∃ xs, SqL K H1 a xs) ∧ R (Itl K a) H1
theorem Va {l : Expr} {tl : TE} (hl : PE X l tl) : PI X tg l (iList X.K tl) := by
 intro pins s σ H R I h
 refine thn (hl pins s σ H _ I h) fun v s1 ⟨x, H1, I1, r1, q1⟩ => ?_
 obtain ⟨a, e, ⟨xs, hq⟩, q⟩ := q1
 subst e
 cases r1
 obtain ⟨its, rv, p, hz⟩ := I1.list hq
 refine wpAny_pyIter_list p.isList ?_
 refine ⟨s1.heap.objs.size, [s1.heap.objs.size], _, _, H1, rfl, I1.kept (t' := s1.toks) fun b o e => Heap.get?_push_of_some _ e, turn_list a _, ⟨_, Heap.get?_push_size _ rfl, rfl, rfl⟩, fun b hb => ?_, q⟩
 have e : b = s1.heap.objs.size := by simpa using hb
 subst e
 exact I1.fpOk (Nat.le_refl _) (I1.hok.fresh (Nat.le_refl _))
theorem range_it {pins : List (Addr × Obj)} {σ : St} {H : Hp} {s : Shared} {R : It → Hp → Prop} {E : Value → Shared → Prop} {lo hi : Int} {t u v : Tok} {tk : Nat} (I : Inv X pins σ H s) (h1 : -(2 ^ 62) ≤ lo) (h2 : lo < 2 ^ 62) (h3 : -(2 ^ 62) ≤ hi) (h4 : hi < 2 ^ 62)
   (q : R (Itr lo (hi - lo).toNat) H) : wpAny (model X.prog X.w) X.A (pyIter (.ref s.heap.objs.size)) (PIE X pins σ tg R) E { s with heap := s.heap.push { cls := .type "range", data := .fields #[.int lo t, .int hi u, .int 1 v] }, toks := tk } := by
 refine wpAny_pyIter_range (IsRange.new ..) (small_one h1 h2 h3 h4) ?_
 have I1 : Inv X pins σ H { s with heap := s.heap.push { cls := .type "range", data := .fields #[.int lo t, .int hi u, .int 1 v] }, toks := tk } := I.kept fun b o e => Heap.get?_push_of_some _ e
 refine ⟨(s.heap.push { cls := .type "range", data := .fields #[.int lo t, .int hi u, .int 1 v] }).objs.size, [(s.heap.push { cls := .type "range", data := .fields #[.int lo t, .int hi u, .int 1 v] }).objs.size], _, _, H, rfl,
   I1.kept (t' := tk) fun b o e => Heap.get?_push_of_some _ e, turn_range _ lo (hi - lo).toNat, ?_, fun b hb => ?_, q⟩
 · have e1 : lo + ((0 : Nat) : Int) * 1 = lo := by simp
   have e2 : (((hi - lo).toNat : Nat) : Int) - ((0 : Nat) : Int) = Builtin.Range.rangeSize lo hi 1 := by rw [rangeSize_one]; split <;> omega
   show IsRangeIter _ _ (lo + ((0 : Nat) : Int) * 1) ((((hi - lo).toNat : Nat) : Int) - ((0 : Nat) : Int)) 1
   rw [e1, e2]
   exact Heap.get?_push_size _ rfl
 · have e : b = (s.heap.push { cls := .type "range", data := .fields #[.int lo t, .int hi u, .int 1 v] }).objs.size := by simpa using hb
   subst e
   exact I1.fpOk (Nat.le_refl _) (I1.hok.fresh (Nat.le_refl _))
def iRng1 (ta : TA) : TI := fun σ H R => ta σ H fun vs H1 => ∃ j : Int, vs = [.int j] ∧ -(2 ^ 62) ≤ j ∧ j < 2 ^ 62 ∧ R (Itr 0 j.toNat) H1
def iRng2 (ta : TA) : TI := fun σ H R => ta σ H fun vs H1 => ∃ i j : Int, vs = [.int i, .int j] ∧ (-(2 ^ 62) ≤ i ∧ i < 2 ^ 62 ∧ -(2 ^ 62) ≤ j ∧ j < 2 ^ 62) ∧ R (Itr i (j - i).toNat) H1
theorem XZ {a : Expr} {ta : TA} {p pos : Pos} (hg : Gl X "range") (hm : X.mg "range" = none) (ha : PA X [a] ta) (hs : starEach [a] X.env = [(false, eval a X.env)] := by rfl) : PI X tg (.Call (.Name "range" p) [a] [] pos) (iRng1 ta) := by
 intro pins s σ H R I h
 refine Call_ (VY I hg hm boot_range (PyProof.Rows.callWith_type1 (thn (ha pos pins s σ H _ I h) fun us s1 ⟨vs, H1, I1, r1, q1⟩ => ?_) hs rfl))
 obtain ⟨j, e, q1, q2, q⟩ := q1
 subst e
 cases r1 with
 | cons r rr =>
   cases rr
   obtain ⟨t, rfl⟩ := r
   exact call_range_1 (range_it I1 (by omega) (by omega) q1 q2 (by simpa using q))
theorem pi_range2 {a b : Expr} {ta : TA} {p pos : Pos} (hg : Gl X "range") (hm : X.mg "range" = none) (ha : PA X [a, b] ta) (hs : starEach [a, b] X.env = [(false, eval a X.env), (false, eval b X.env)] := by rfl) (hs2 : starEach [b] X.env = [(false, eval b X.env)] := by rfl) :
   PI X tg (.Call (.Name "range" p) [a, b] [] pos) (iRng2 ta) := by
 intro pins s σ H R I h
 refine Call_ (VY I hg hm boot_range (PyProof.Rows.callWith_type1 (thn (ha pos pins s σ H _ I h) fun us s1 ⟨vs, H1, I1, r1, q1⟩ => ?_) (by rw [hs, hs2]) (by rw [hs2]; rfl)))
 obtain ⟨i, j, e, ⟨q1, q2, q3, q4⟩, q⟩ := q1
 subst e
 cases r1 with
 | cons r rr =>
   cases rr with
   | cons r' rr =>
     cases rr
     obtain ⟨t, rfl⟩ := r
     obtain ⟨t', rfl⟩ := r'
     exact call_range_2 (range_it I1 q1 q2 q3 q4 q)
def tFor (wi : TI) (g : TG) (tb : TS) : TS := fun D σ H => wi σ H fun J H1 => ∃ W : Nat → Nat → St → Hp → Prop, (∃ m, W 0 m σ H1) ∧ ∀ i m σ H, W i m σ H →
 (J.stop i H ∧ D.nx σ H) ∨ (J.go i H ∧ ∃ N : St → Hp → Prop, (∀ σ' H', N σ' H' → ∃ m', m' < m ∧ W (i + 1) m' σ' H') ∧ ∀ x H', J.yld i H x H' → g x σ H' fun σ2 H2 => tb { D with nx := N, ct := N, bk := D.nx } σ2 H2)
def Vm (fp : List Addr) (h : Heap) : List (Addr × Obj) := fp.filterMap fun b => (h.get? b).map fun o => (b, o)
theorem Vp {fp : List Addr} {h : Heap} {b : Addr} {o : Obj} (hb : b ∈ fp) (e : h.get? b = some o) : (b, o) ∈ Vm fp h := List.mem_filterMap.mpr ⟨b, hb, by rw [e]; rfl⟩
theorem TL {fp : List Addr} {h : Heap} {p : Addr × Obj} (hp : p ∈ Vm fp h) : p.1 ∈ fp ∧ h.get? p.1 = some p.2 := by
 obtain ⟨b, hb, e⟩ := List.mem_filterMap.mp hp
 cases q : h.get? b with
 | none => rw [q] at e; cases e
 | some o =>
   rw [q] at e
   have e' : (b, o) = p := Option.some.inj e
   subst e'
   exact ⟨hb, q⟩
theorem Inv.pinned {pins : List (Addr × Obj)} {σ : St} {H : Hp} {s : Shared} {fp : List Addr} (I : Inv X pins σ H s) (hf : ∀ b ∈ fp, FpOk X pins H b) (ho : ∀ b ∈ fp, ∃ o, s.heap.get? b = some o ∧ ∀ v, o.data ≠ .cell v) : Inv X (pins ++ Vm fp s.heap) σ H s :=
 I.pins_of fun p hp => (List.mem_append.mp hp).elim (fun z => I.pin p (List.mem_append_right _ z)) fun z => by
   obtain ⟨hb, e⟩ := TL z
   obtain ⟨f0, f1, f2, _⟩ := hf p.1 hb
   obtain ⟨o, e', d⟩ := ho p.1 hb
   rw [e] at e'; cases e'
   exact ⟨e, f0, f1, f2, d⟩
theorem Inv.unpinned {pins pl : List (Addr × Obj)} {σ : St} {H : Hp} {s : Shared} (I : Inv X (pins ++ pl) σ H s) : Inv X pins σ H s := I.pins_of fun p hp => I.pin p (List.mem_append_right _ (List.mem_append_left _ hp))
theorem XE {iter : Expr} {body : List Stmt} {wi : TI} {g : TG} {tb : TS} {pos : Pos} (hp : PassesOwn (model X.prog X.w) X.A X.env X.xe) (hc : X.calm = true) (hi : PI X tg iter wi) (hg : PG X tg g) (hb : PSs X body tb)
   (hs : ∀ x, foldedSetIterable iter X.env x = pure x := by intro _; rfl) : PS X (.For tg iter body [] pos) (tFor wi g tb) := by
 intro pins s σ H D I h
 refine wpAny_For (thn (hi pins s σ H _ I h) fun v s1 h1 => thn h1 fun itv s2 h2 => ?_) hs
 obtain ⟨it, fp, tn, J, H2, e, I2, T, st2, f2, W, ⟨m0, w0⟩, turn⟩ := h2
 subst e
 have stat : ∀ {H' : Hp}, (∀ b ∈ fp, H' b = none) → ∀ b ∈ fp, FpOk X pins H' b := fun hn b hb => ⟨hn b hb, (f2 b hb).2⟩
 refine codeAny_forLoop_any (fun n s' => ∃ i σ' H', Inv X pins σ' H' s' ∧ tn i s'.heap ∧ (∀ b ∈ fp, H' b = none) ∧ W i n σ' H') ?_ m0 ⟨0, σ, H2, I2, st2, fun b hb => (f2 b hb).1, w0⟩
 rintro n s3 ⟨i, σ3, H3, I3, st3, fr3, w3⟩
 rcases turn i n σ3 H3 w3 with ⟨stop, qn⟩ | ⟨go, N, hN, step⟩
 · refine wpAny_passesOwn hp (thn (T.done X rfl rfl rfl hc i pins s3 σ3 H3 X.xe I3 (stat fr3) st3 stop) fun r s4 ⟨hr, I4⟩ => ?_)
   subst hr
   exact wpAny_execs_nil ⟨σ3, H3, I4, qn⟩
 · refine wpAny_passesOwn hp (thn (T.item X rfl rfl rfl hc i pins s3 σ3 H3 X.xe I3 (stat fr3) st3 go) fun r s4 ⟨u, hr, h4⟩ => ?_)
   subst hr
   refine wpAny_passesOwn hp (thn h4 fun _ s5 ⟨x, H5, I5, r5, y5, st5, fr5⟩ => ?_)
   have I5' := I5.pinned (stat fr5) (T.obj _ _ st5)
   refine wpAny_passesOwn hp (thn (hg _ s5 σ3 H5 x u _ I5' r5 (step x H5 y5)) fun _ s6 ⟨σ6, H6, I6, q6⟩ => ?_)
   refine wpAny_passesOwn hp (thn (hb _ s6 σ6 H6 _ I6 q6) fun f s7 q7 => ?_)
   have again : ∀ {σ7 : St} {H7 : Hp}, Inv X (pins ++ Vm fp s5.heap) σ7 H7 s7 → N σ7 H7 → ∃ m, m < n ∧ ∃ i σ' H', Inv X pins σ' H' s7 ∧ tn i s7.heap ∧ (∀ b ∈ fp, H' b = none) ∧ W i m σ' H' := fun {σ7 H7} I7 n7 => by
     obtain ⟨m', hm, w7⟩ := hN σ7 H7 n7
     refine ⟨m', hm, i + 1, σ7, H7, I7.unpinned, T.keep _ _ _ st5 fun b hb o e => (I7.pin (b, o) (List.mem_append_right _ (List.mem_append_right _ (Vp hb e)))).1, fun b hb => ?_, w7⟩
     obtain ⟨o, e, d⟩ := T.obj _ _ st5 b hb
     exact (I7.pin (b, o) (List.mem_append_right _ (List.mem_append_right _ (Vp hb e)))).2.1
   cases f with
   | next => obtain ⟨σ7, H7, I7, n7⟩ := q7; exact again I7 n7
   | cont => obtain ⟨σ7, H7, I7, n7⟩ := q7; exact again I7 n7
   | brk => obtain ⟨σ7, H7, I7, q7⟩ := q7; exact ⟨σ7, H7, I7.unpinned, q7⟩
   | ret v => obtain ⟨x7, σ7, H7, I7, r7, q7⟩ := q7; exact ⟨x7, σ7, H7, I7.unpinned, r7, q7⟩
end
theorem Tj {K : PySem.W.Frag} {a : Addr} {xs : List V} {g : TG} {tb : TS} {D : Ends} {σ : St} {H : Hp} (Pv : Nat → St → Hp → Prop) (h0 : Pv 0 σ H) (hl : ∀ i σ H, i ≤ xs.length → Pv i σ H → SqL K H a xs)
   (hs : ∀ i x σ H, xs[i]? = some x → Pv i σ H → g x σ H fun σ2 H2 => tb { D with nx := Pv (i + 1), ct := Pv (i + 1), bk := D.nx } σ2 H2) (hd : ∀ σ H, Pv xs.length σ H → D.nx σ H) :
   ∃ W : Nat → Nat → St → Hp → Prop, (∃ m, W 0 m σ H) ∧ ∀ i m σ H, W i m σ H →
     ((Itl K a).stop i H ∧ D.nx σ H) ∨ ((Itl K a).go i H ∧ ∃ N : St → Hp → Prop, (∀ σ' H', N σ' H' → ∃ m', m' < m ∧ W (i + 1) m' σ' H') ∧ ∀ x H', (Itl K a).yld i H x H' → g x σ H' fun σ2 H2 => tb { D with nx := N, ct := N, bk := D.nx } σ2 H2) := by
 refine ⟨fun i m σ H => m = xs.length - i ∧ i ≤ xs.length ∧ Pv i σ H, ⟨xs.length, by simp, Nat.zero_le _, h0⟩, ?_⟩
 rintro i m σ H ⟨rfl, hi, p⟩
 have q := hl i σ H hi p
 by_cases hlt : i < xs.length
 · refine .inr ⟨⟨xs, xs[i], q, by simp [hlt]⟩, Pv (i + 1), fun σ' H' p' => ⟨xs.length - (i + 1), by omega, rfl, hlt, p'⟩, fun x H' y => ?_⟩
   obtain ⟨e, y⟩ := y
   subst e
   exact hs i x σ _ (y xs q) p
 · have e : i = xs.length := by omega
   subst e
   exact .inl ⟨⟨xs, q, Nat.le_refl _⟩, hd σ H p⟩
theorem Vc {lo : Int} {n : Nat} {g : TG} {tb : TS} {D : Ends} {σ : St} {H : Hp} (Pv : Nat → St → Hp → Prop) (h0 : Pv 0 σ H)
   (hs : ∀ i σ H, i < n → Pv i σ H → g (.int (lo + i)) σ H fun σ2 H2 => tb { D with nx := Pv (i + 1), ct := Pv (i + 1), bk := D.nx } σ2 H2) (hd : ∀ σ H, Pv n σ H → D.nx σ H) :
   ∃ W : Nat → Nat → St → Hp → Prop, (∃ m, W 0 m σ H) ∧ ∀ i m σ H, W i m σ H →
     ((Itr lo n).stop i H ∧ D.nx σ H) ∨ ((Itr lo n).go i H ∧ ∃ N : St → Hp → Prop, (∀ σ' H', N σ' H' → ∃ m', m' < m ∧ W (i + 1) m' σ' H') ∧ ∀ x H', (Itr lo n).yld i H x H' → g x σ H' fun σ2 H2 => tb { D with nx := N, ct := N, bk := D.nx } σ2 H2) := by
 refine ⟨fun i m σ H => m = n - i ∧ i ≤ n ∧ Pv i σ H, ⟨n, by simp, Nat.zero_le _, h0⟩, ?_⟩
 rintro i m σ H ⟨rfl, hi, p⟩
 by_cases hlt : i < n
 · refine .inr ⟨hlt, Pv (i + 1), fun σ' H' p' => ⟨n - (i + 1), by omega, rfl, hlt, p'⟩, fun x H' y => ?_⟩
   obtain ⟨e, y⟩ := y
   subst e y
   exact hs i σ _ hlt p
 · have e : i = n := by omega
   subst e
   exact .inl ⟨Nat.le_refl _, hd σ H p⟩
end L2
namespace L2
open PySem PySem.Spec PyProof.Rows
abbrev R2 := V → V → Hp → VK → Prop
def OpR (X : Cx) (f : Value → Value → Sem Value) (r : R2) : Prop :=
 ∀ (pins : List (Addr × Obj)) (s : Shared) (σ : St) (H : Hp) (x y : V) (v u : Value) (Q : VK), Inv X pins σ H s → RelV x v → RelV y u → r x y H Q →
   wpAny (model X.prog X.w) X.A (f v u) (EP X pins σ Q) X.xe s
def UnR (X : Cx) (f : Value → Sem Value) (r : V → Hp → VK → Prop) : Prop :=
 ∀ (pins : List (Addr × Obj)) (s : Shared) (σ : St) (H : Hp) (x : V) (v : Value) (Q : VK), Inv X pins σ H s → RelV x v → r x H Q →
   wpAny (model X.prog X.w) X.A (f v) (EP X pins σ Q) X.xe s
def XV (X : Cx) (f : Value) (r : List V → Hp → VK → Prop) : Prop :=
 ∀ (pins : List (Addr × Obj)) (s : Shared) (σ : St) (H : Hp) (xs : List V) (us : List Value) (Q : VK), Inv X pins σ H s → Vals xs us → r xs H Q →
   wpAny (model X.prog X.w) X.A (call f us) (EP X pins σ Q) X.xe s
def TruR (X : Cx) (r : V → Hp → (Bool → Hp → Prop) → Prop) : Prop :=
 ∀ (pins : List (Addr × Obj)) (s : Shared) (σ : St) (H : Hp) (x : V) (v : Value) (Q : Bool → Hp → Prop), Inv X pins σ H s → RelV x v → r x H Q →
   wpAny (model X.prog X.w) X.A (truthy v) (TP X pins σ Q) X.xe s
def tOp (r : R2) (ta tb : TE) : TE := fun σ H Q => ta σ H fun x H1 => tb σ H1 fun y H2 => r x y H2 Q
def tUn (r : V → Hp → VK → Prop) (ta : TE) : TE := fun σ H Q => ta σ H fun x H1 => r x H1 Q
def rI (C : Int → Int → Prop) (g : Int → Int → V) : R2 := fun x y H Q => ∃ i j, x = .int i ∧ y = .int j ∧ C i j ∧ Q (g i j) H
def rI0 (g : Int → Int → V) : R2 := fun x y H Q => ∃ i j, x = .int i ∧ y = .int j ∧ Q (g i j) H
def rU (g : Int → V) : V → Hp → VK → Prop := fun x H Q => ∃ i, x = .int i ∧ Q (g i) H
section
variable {X : Cx} {a b c : Expr} {ta tb tc : TE} {pos : Pos}
theorem binT (ha : PE X a ta) (hb : PE X b tb) {pins : List (Addr × Obj)} {s : Shared} {σ : St} {H : Hp} {R : V → V → Hp → Prop} (I : Inv X pins σ H s)
   (h : ta σ H fun x H1 => tb σ H1 fun y H2 => R x y H2) {Q : Value → Shared → Prop} {f : Value → Value → Sem Value}
   (hf : ∀ v u s2 x y H2, Inv X pins σ H2 s2 → RelV x v → RelV y u → R x y H2 → wpAny (model X.prog X.w) X.A (f v u) Q X.xe s2) :
   wpAny (model X.prog X.w) X.A (eval a X.env) (fun v s₁ => wpAny (model X.prog X.w) X.A (eval b X.env) (fun u s₂ => wpAny (model X.prog X.w) X.A (f v u) Q X.xe s₂) X.xe s₁) X.xe s := by
 refine thn (ha pins s σ H _ I h) fun v s1 ⟨x, H1, I1, r1, q1⟩ => ?_
 refine thn (hb pins s1 σ H1 _ I1 q1) fun u s2 ⟨y, H2, I2, r2, q2⟩ => ?_
 exact hf v u s2 x y H2 I2 r1 r2 q2
theorem Zm {op : Operator} {r : R2} (ho : OpR X (binaryOp op) r) (ha : PE X a ta) (hb : PE X b tb) : PE X (.BinOp a op b pos) (tOp r ta tb) := by
 intro pins s σ H Q I h
 exact wpAny_BinOp (binT ha hb I h fun v u s2 x y H2 I2 rx ry q => ho pins s2 σ H2 x y v u Q I2 rx ry q)
theorem pe_un {op : UnaryOp} {r : V → Hp → VK → Prop} (ho : UnR X (unaryOp op) r) (ha : PE X a ta) : PE X (.UnaryOp op a pos) (tUn r ta) := by
 intro pins s σ H Q I h
 exact UnaryOp_ (thn (ha pins s σ H _ I h) fun v s1 ⟨x, H1, I1, r1, q1⟩ => ho pins s1 σ H1 x v Q I1 r1 q1)
theorem opI {f : Value → Value → Sem Value} {C : Int → Int → Prop} {g : Int → Int → Int}
   (rule : ∀ (i j : Int) (t u : Tok) (s : Shared) (Q : Value → Shared → Prop) (E : Value → Shared → Prop), C i j → Q (.int (g i j) s.toks) { s with toks := s.toks + 1 } → wpAny (model X.prog X.w) X.A (f (.int i t) (.int j u)) Q E s) :
   OpR X f (rI C fun i j => .int (g i j)) := by
 intro pins s σ H x y v u Q I rx ry h
 obtain ⟨i, j, rfl, rfl, hc, q⟩ := h
 obtain ⟨t, rfl⟩ := rx
 obtain ⟨t', rfl⟩ := ry
 exact rule i j t t' s _ _ hc ⟨.int (g i j), H, I.tok _, ⟨_, rfl⟩, q⟩
theorem opI0 {f : Value → Value → Sem Value} {g : Int → Int → Int}
   (rule : ∀ (i j : Int) (t u : Tok) (s : Shared) (Q : Value → Shared → Prop) (E : Value → Shared → Prop), Q (.int (g i j) s.toks) { s with toks := s.toks + 1 } → wpAny (model X.prog X.w) X.A (f (.int i t) (.int j u)) Q E s) :
   OpR X f (rI0 fun i j => .int (g i j)) := by
 intro pins s σ H x y v u Q I rx ry h
 obtain ⟨i, j, rfl, rfl, q⟩ := h
 obtain ⟨t, rfl⟩ := rx
 obtain ⟨t', rfl⟩ := ry
 exact rule i j t t' s _ _ ⟨.int (g i j), H, I.tok _, ⟨_, rfl⟩, q⟩
theorem opB0 {f : Value → Value → Sem Value} {g : Int → Int → Bool}
   (rule : ∀ (i j : Int) (t u : Tok) (s : Shared) (Q : Value → Shared → Prop) (E : Value → Shared → Prop), Q (.bool (g i j)) s → wpAny (model X.prog X.w) X.A (f (.int i t) (.int j u)) Q E s) :
   OpR X f (rI0 fun i j => .bl (g i j)) := by
 intro pins s σ H x y v u Q I rx ry h
 obtain ⟨i, j, rfl, rfl, q⟩ := h
 obtain ⟨t, rfl⟩ := rx
 obtain ⟨t', rfl⟩ := ry
 exact rule i j t t' s _ _ ⟨.bl (g i j), H, I, rfl, q⟩
def CMul (i j : Int) : Prop := (-(2 ^ 64) < i ∧ i < 2 ^ 64) ∨ (-(2 ^ 64) < j ∧ j < 2 ^ 64)
theorem CMul.ok {i j : Int} (h : CMul i j) : IntMulOk i j := by
 rcases h with ⟨h1, h2⟩ | ⟨h1, h2⟩
 · exact .of_left (intBits_le_64 h1 h2)
 · exact .of_right (intBits_le_64 h1 h2)
theorem Ye : OpR X (binaryOp .Add) (rI0 fun i j => .int (i + j)) := opI0 fun _ _ _ _ _ _ _ q => add_int q
theorem VT : OpR X (binaryOp .Sub) (rI0 fun i j => .int (i - j)) := opI0 fun _ _ _ _ _ _ _ q => sub_int q
theorem YY : OpR X (binaryOp .Mult) (rI CMul fun i j => .int (i * j)) := opI fun _ _ _ _ _ _ _ hc q => mul_int q hc.ok
theorem Yl : OpR X (binaryOp .Mod) (rI (fun _ j => 0 < j) fun i j => .int (i % j)) := opI fun i j _ _ _ _ _ hc q => by
 have h1 : (0 : Int) < j := hc
 exact mod_int' (by omega) (by rw [Int.fmod_eq_emod_of_nonneg i (by omega)]; exact q)
theorem unI {f : Value → Sem Value} {g : Int → Int}
   (rule : ∀ (i : Int) (t : Tok) (s : Shared) (Q : Value → Shared → Prop) (E : Value → Shared → Prop), Q (.int (g i) s.toks) { s with toks := s.toks + 1 } → wpAny (model X.prog X.w) X.A (f (.int i t)) Q E s) :
   UnR X f (rU fun i => .int (g i)) := by
 intro pins s σ H x v Q I rx h
 obtain ⟨i, rfl, q⟩ := h
 obtain ⟨t, rfl⟩ := rx
 exact rule i t s _ _ ⟨.int (g i), H, I.tok _, ⟨_, rfl⟩, q⟩
theorem un_neg : UnR X (unaryOp .USub) (rU fun i => .int (-i)) := unI fun _ _ _ _ _ q => neg_int q
end
def scal : V → V → Bool
 | .non, .non => true | .non, .int _ => true | .int _, .non => true | .non, .bl _ => true | .bl _, .non => true | .non, .str _ => true | .str _, .non => true
 | .int _, .int _ => true | .bl _, .bl _ => true | .str _, .str _ => true | .byt _, .byt _ => true
 | .int _, .str _ => true | .str _, .int _ => true | .bl _, .str _ => true | .str _, .bl _ => true
 | _, _ => false
def rEq : R2 := fun x y H Q => scal x y = true ∧ Q (.bl (decide (x = y))) H
def rNe : R2 := fun x y H Q => scal x y = true ∧ Q (.bl (!decide (x = y))) H
theorem dec_int {i j : Int} : decide (V.int i = V.int j) = (i == j) := by
 rw [Bool.eq_iff_iff]
 simp
theorem dec_bl {i j : Bool} : decide (V.bl i = V.bl j) = (i == j) := by
 rw [Bool.eq_iff_iff]
 simp
theorem dec_str {i j : Str} : decide (V.str i = V.str j) = (i == j) := by
 rw [Bool.eq_iff_iff]
 simp
theorem dec_byt {i j : Array UInt8} : decide (V.byt i = V.byt j) = (i.toList == j.toList) := by
 rw [Bool.eq_iff_iff]
 cases i
 cases j
 simp
section
variable {X : Cx} {a b c : Expr} {ta tb tc : TE} {pos : Pos}
theorem Zv {pins : List (Addr × Obj)} {σ : St} {H : Hp} {s : Shared} {Q : VK} {k k' : Bool} (I : Inv X pins σ H s) (q : Q (.bl k) H) (e : k = k') : EP X pins σ Q (.bool k') s := by
 subst e
 exact ⟨.bl k, H, I, rfl, q⟩
theorem op_eq : OpR X (compareOp .Eq) rEq := by
 intro pins s σ H x y v u Q I rx ry h
 obtain ⟨hs, q⟩ := h
 cases x with
 | non =>
   cases rx
   cases y with
   | non => cases ry; exact PySem.EqNone.eq_none_none (Zv I q (by simp))
   | bl j => cases ry; exact PySem.EqNone.eq_none_bool (Zv I q (by simp))
   | int j => obtain ⟨t', rfl⟩ := ry; exact PySem.EqNone.eq_none_int (Zv I q (by simp))
   | str j => obtain ⟨t', rfl⟩ := ry; exact PySem.EqNone.eq_none_str (Zv I q (by simp))
   | _ => exact absurd (show false = true from hs) Bool.false_ne_true
 | bl i =>
   cases rx
   cases y with
   | non => cases ry; exact PySem.EqNone.eq_bool_none (Zv I q (by simp))
   | bl j => cases ry; exact eq_bool (Zv I q dec_bl)
   | str j => obtain ⟨t', rfl⟩ := ry; exact PySem.EqMixed.eq_bool_str (Zv I q (by simp))
   | _ => exact absurd (show false = true from hs) Bool.false_ne_true
 | int i =>
   obtain ⟨t, rfl⟩ := rx
   cases y with
   | non => cases ry; exact PySem.EqNone.eq_int_none (Zv I q (by simp))
   | int j => obtain ⟨t', rfl⟩ := ry; exact eq_int (Zv I q dec_int)
   | str j => obtain ⟨t', rfl⟩ := ry; exact PySem.EqMixed.eq_int_str (Zv I q (by simp))
   | _ => exact absurd (show false = true from hs) Bool.false_ne_true
 | str i =>
   obtain ⟨t, rfl⟩ := rx
   cases y with
   | non => cases ry; exact PySem.EqNone.eq_str_none (Zv I q (by simp))
   | bl j => cases ry; exact PySem.EqMixed.eq_str_bool (Zv I q (by simp))
   | int j => obtain ⟨t', rfl⟩ := ry; exact PySem.EqMixed.eq_str_int (Zv I q (by simp))
   | str j => obtain ⟨t', rfl⟩ := ry; exact eq_str (Zv I q dec_str)
   | _ => exact absurd (show false = true from hs) Bool.false_ne_true
 | byt i =>
   obtain ⟨t, rfl⟩ := rx
   cases y with
   | byt j => obtain ⟨t', rfl⟩ := ry; exact W.eq_bytes (Zv I q dec_byt)
   | _ => exact absurd (show false = true from hs) Bool.false_ne_true
 | _ => cases y <;> exact absurd (show false = true from hs) Bool.false_ne_true
theorem op_ne : OpR X (compareOp .NotEq) rNe := by
 intro pins s σ H x y v u Q I rx ry h
 obtain ⟨hs, q⟩ := h
 cases x with
 | non =>
   cases rx
   cases y with
   | non => cases ry; exact PySem.EqNone.ne_none_none (Zv I q (by simp))
   | bl j => cases ry; exact PySem.EqNone.ne_none_bool (Zv I q (by simp))
   | int j => obtain ⟨t', rfl⟩ := ry; exact PySem.EqNone.ne_none_int (Zv I q (by simp))
   | str j => obtain ⟨t', rfl⟩ := ry; exact PySem.EqNone.ne_none_str (Zv I q (by simp))
   | _ => exact absurd (show false = true from hs) Bool.false_ne_true
 | bl i =>
   cases rx
   cases y with
   | non => cases ry; exact PySem.EqNone.ne_bool_none (Zv I q (by simp))
   | bl j => cases ry; exact ne_bool (Zv I q (congrArg not dec_bl))
   | str j => obtain ⟨t', rfl⟩ := ry; exact PySem.EqMixed.ne_bool_str (Zv I q (by simp))
   | _ => exact absurd (show false = true from hs) Bool.false_ne_true
 | int i =>
   obtain ⟨t, rfl⟩ := rx
   cases y with
   | non => cases ry; exact PySem.EqNone.ne_int_none (Zv I q (by simp))
   | int j => obtain ⟨t', rfl⟩ := ry; exact ne_int (Zv I q (congrArg not dec_int))
   | str j => obtain ⟨t', rfl⟩ := ry; exact PySem.EqMixed.ne_int_str (Zv I q (by simp))
   | _ => exact absurd (show false = true from hs) Bool.false_ne_true
 | str i =>
   obtain ⟨t, rfl⟩ := rx
   cases y with
   | non => cases ry; exact PySem.EqNone.ne_str_none (Zv I q (by simp))
   | bl j => cases ry; exact PySem.EqMixed.ne_str_bool (Zv I q (by simp))
   | int j => obtain ⟨t', rfl⟩ := ry; exact PySem.EqMixed.ne_str_int (Zv I q (by simp))
   | str j => obtain ⟨t', rfl⟩ := ry; exact ne_str (Zv I q (congrArg not dec_str))
   | _ => exact absurd (show false = true from hs) Bool.false_ne_true
 | byt i =>
   obtain ⟨t, rfl⟩ := rx
   cases y with
   | byt j => obtain ⟨t', rfl⟩ := ry; exact W.ne_bytes (Zv I q (congrArg not dec_byt))
   | _ => exact absurd (show false = true from hs) Bool.false_ne_true
 | _ => cases y <;> exact absurd (show false = true from hs) Bool.false_ne_true
theorem UV : OpR X (compareOp .Lt) (rI0 fun i j => .bl (decide (i < j))) := opB0 fun _ _ _ _ _ _ _ q => lt_int q
theorem op_le : OpR X (compareOp .LtE) (rI0 fun i j => .bl (decide (i ≤ j))) := opB0 fun _ _ _ _ _ _ _ q => le_int q
theorem op_gt : OpR X (compareOp .Gt) (rI0 fun i j => .bl (decide (j < i))) := opB0 fun _ _ _ _ _ _ _ q => gt_int q
theorem Sw : OpR X (compareOp .Is) (fun x y H Q => y = .non ∧ Q (.bl (decide (x = .non))) H) := by
 intro pins s σ H x y v u Q I rx ry h
 obtain ⟨rfl, q⟩ := h
 cases ry
 refine is_none_gen (Zv I q ?_)
 cases x <;> first
   | (cases rx; rfl)
   | (obtain ⟨t, rfl⟩ := rx; rfl)
theorem Sv : OpR X (compareOp .IsNot) (fun x y H Q => y = .non ∧ Q (.bl (!decide (x = .non))) H) := by
 intro pins s σ H x y v u Q I rx ry h
 obtain ⟨rfl, q⟩ := h
 cases ry
 refine isnot_none_gen (Zv I q ?_)
 cases x <;> first
   | (cases rx; rfl)
   | (obtain ⟨t, rfl⟩ := rx; rfl)
theorem ZG (b : Expr) {op : CmpOp} (h : op ≠ .In := by decide) (h2 : op ≠ .NotIn := by decide) : behindInMarks op b = false := by
 have e1 : (op == CmpOp.In) = false := by cases op <;> first | rfl | exact absurd rfl h
 have e2 : (op == CmpOp.NotIn) = false := by cases op <;> first | rfl | exact absurd rfl h2
 cases b <;> simp [behindInMarks, e1, e2]
theorem pe_cmpR {op : CmpOp} {r : R2} (ho : OpR X (compareOp op) r) (ha : PE X a ta) (hb : PE X b tb) (hm : behindInMarks op b = false) : PE X (.Compare a [op] [b] pos) (tOp r ta tb) := by
 intro pins s σ H Q I h
 exact wpAny_Compare1 (binT ha hb I h fun v u s2 x y H2 I2 rx ry q => ho pins s2 σ H2 x y v u Q I2 rx ry q) hm
def tTest (t : TE) : TT := fun σ H Q => t σ H fun x H' => ∃ k, x = .bl k ∧ Q k H'
theorem Zy {op : CmpOp} {r : R2} (ho : OpR X (compareOp op) r) (ha : PE X a ta) (hb : PE X b tb) (hm : behindInMarks op b = false) : PT X (.Compare a [op] [b] pos) (tTest (tOp r ta tb)) := by
 intro pins s σ H Q I h
 refine wpAny_isTrue_Compare1 (thn (ha pins s σ H _ I h) fun v s1 ⟨x, H1, I1, r1, q1⟩ => thn (hb pins s1 σ H1 _ I1 q1) fun u s2 ⟨y, H2, I2, r2, q2⟩ =>
   thn (ho pins s2 σ H2 x y v u _ I2 r1 r2 q2) fun c s3 ⟨z, H3, I3, r3, k, e, q3⟩ => ?_) hm
 subst e
 cases r3
 exact wpAny_truthy_bool ⟨H3, I3, q3⟩
def TruV (K : W.Frag) (x : V) (H : Hp) (k : Bool) : Prop :=
 match x with
 | .non => k = false
 | .bl b => k = b
 | .int i => k = (i != 0)
 | .str y => y.length ≤ sizeLine ∧ k = ((y.length : Int) != 0)
 | .byt y => y.size ≤ sizeLine ∧ k = ((y.size : Int) != 0)
 | .ref p => (∃ xs, SqL K H p xs ∧ k = !xs.isEmpty) ∨ (∃ xs, SqT K H p xs ∧ k = !xs.isEmpty) ∨ ∃ kvs, H p = some (.dK kvs) ∧ k = !kvs.isEmpty
 | _ => False
theorem isEmpty_kv {κ : Type} {kvs : List (κ × V)} {vs : List (κ × Value)} (r : KV kvs vs) : (!vs.isEmpty) = !kvs.isEmpty := by
 cases r <;> rfl
theorem Tg {xs : List V} {its : List Value} (r : Vals xs its) : (!its.toArray.isEmpty) = !xs.isEmpty := by
 cases r <;> simp
theorem SB : (sizeLine : Nat) < 2 ^ 63 := by rw [sizeLine_eq]; decide
theorem tru_ok : TruR X (fun x H Q => ∃ k, TruV X.K x H k ∧ Q k H) := by
 intro pins s σ H x v Q I rx h
 obtain ⟨k, e, q⟩ := h
 have hl := SB
 have hs : sizeLine = 16777216 := sizeLine_eq
 cases x with
 | non =>
   cases rx
   have e' : k = false := e
   subst e'
   exact truthy_none ⟨H, I, q⟩
 | bl b =>
   cases rx
   have e' : k = b := e
   subst e'
   exact wpAny_truthy_bool ⟨H, I, q⟩
 | int i =>
   obtain ⟨t, rfl⟩ := rx
   have e' : k = (i != 0) := e
   subst e'
   exact PySem.P.truthy_int ⟨H, I, q⟩
 | str y =>
   obtain ⟨t, rfl⟩ := rx
   obtain ⟨hy, e'⟩ : y.length ≤ sizeLine ∧ k = ((y.length : Int) != 0) := e
   subst e'
   exact PySem.P.truthy_str (by omega) ⟨H, I.tok _, q⟩
 | byt y =>
   obtain ⟨t, rfl⟩ := rx
   obtain ⟨hy, e'⟩ : y.size ≤ sizeLine ∧ k = ((y.size : Int) != 0) := e
   subst e'
   exact W.truthy_bytes (by omega) ⟨H, I.tok _, q⟩
 | ref p =>
   cases rx
   have e' : (∃ xs, SqL X.K H p xs ∧ k = !xs.isEmpty) ∨ (∃ xs, SqT X.K H p xs ∧ k = !xs.isEmpty) ∨ ∃ kvs, H p = some (.dK kvs) ∧ k = !kvs.isEmpty := e
   rcases e' with ⟨xs, hx, e'⟩ | ⟨xs, hx, e'⟩ | ⟨kvs, hx, e'⟩
   · subst e'
     obtain ⟨its, r, pl, hz⟩ := I.list hx
     have hlen := r.length
     exact wpAny_truthy_list pl.isList (by simp only [List.size_toArray]; omega) ⟨H, I.tok _, by rw [Tg r]; exact q⟩
   · subst e'
     obtain ⟨its, r, pl, hz⟩ := I.tuple hx
     have hlen := r.length
     exact truthy_tuple pl (by simp only [List.size_toArray]; omega) ⟨H, I.tok _, by rw [Tg r]; exact q⟩
   · subst e'
     obtain ⟨hz, hS, vs, r, m⟩ : kvs.length ≤ sizeLine ∧ (p == sysModules) = false ∧ ∃ vs, KV kvs vs ∧ s.heap.DictOf (ZL X.prog X.w) p vs := I.hok p _ hx
     have hlen : kvs.length = vs.length := Paired.length r
     exact wpAny_truthy_dict hS m (by omega) ⟨H, I.tok _, by rw [isEmpty_kv r]; exact q⟩
 | _ => exact (show False from e).elim
theorem UP (ha : PE X a ta) (he : ∀ whole, isTrue a X.env whole = (do let v ← whole; standAt a.pos; holding [v] (truthy v))) :
   PT X a (fun σ H Q => ta σ H fun x H' => ∃ k, TruV X.K x H' k ∧ Q k H') := by
 intro pins s σ H Q I h
 exact isTrue_plain (thn (ha pins s σ H _ I h) fun v s1 ⟨x, H1, I1, r1, q1⟩ => tru_ok pins s1 σ H1 x v Q I1 r1 q1) (he _)
theorem Ud {x : V} {us : List Value} (r : Vals [x] us) : ∃ u, us = [u] ∧ RelV x u := by
 cases r with
 | cons r1 r2 => cases r2; exact ⟨_, rfl, r1⟩
theorem vals2 {x y : V} {us : List Value} (r : Vals [x, y] us) : ∃ u w', us = [u, w'] ∧ RelV x u ∧ RelV y w' := by
 cases r with
 | cons r1 r2 =>
   cases r2 with
   | cons r3 r4 => cases r4; exact ⟨_, _, rfl, r1, r3⟩
theorem call_max2 (hc : X.calm = true) : XV X (.builtin "max") (fun xs H Q => ∃ i j, xs = [.int i, .int j] ∧ Q (.int (if j > i then j else i)) H) := by
 intro pins s σ H xs us Q I r h
 obtain ⟨i, j, rfl, q⟩ := h
 obtain ⟨u, w', rfl, ⟨t, rfl⟩, ⟨t', rfl⟩⟩ := vals2 r
 refine max_two_ints (I.ok.hd hc) fun h' tk k => ⟨_, H, I.kept k, ?_, q⟩
 by_cases hj : j > i
 · rw [if_pos hj, if_pos hj]; exact ⟨_, rfl⟩
 · rw [if_neg hj, if_neg hj]; exact ⟨_, rfl⟩
theorem call_int1 : XV X (.type "int") (fun xs H Q => (∃ i, xs = [.int i] ∧ Q (.int i) H) ∨ ∃ k, xs = [.bl k] ∧ Q (.int (if k then 1 else 0)) H) := by
 intro pins s σ H xs us Q I r h
 rcases h with ⟨i, rfl, q⟩ | ⟨k, rfl, q⟩
 · obtain ⟨u, rfl, t, rfl⟩ := Ud r
   exact call_int_int ⟨.int i, H, I, ⟨_, rfl⟩, q⟩
 · obtain ⟨u, rfl, r1⟩ := Ud r
   cases r1
   exact call_int_bool ⟨.int (if k then 1 else 0), H, I.tok _, ⟨_, rfl⟩, q⟩
end
end L2
namespace L2
open PySem PySem.Spec PyProof.Rows
structure ObjM (h : Heap) (x dx C : Addr) (mA : Str → Option Value) : Prop where
 obj : h.get? x = some (W.instObj C dx)
 ns : h.Ns1 dx mA
 ne : dx ≠ x
theorem lookIn_ns {h : Heap} {dx : Addr} {mA : Str → Option Value} (n : h.Ns1 dx mA) : ∃ od, h.get? dx = some od ∧ ∀ name, W.lookIn name od = some (mA name) := by
 obtain ⟨o, es, ep, ho, hd, hk, _, hm⟩ := n
 refine ⟨o, ho, fun name => ?_⟩
 have e := hm name
 unfold nsFind findBy at e
 rw [← Array.find?_toList] at e
 unfold W.lookIn
 rw [hd]
 dsimp only
 split
 · rename_i y q
   rw [q] at e
   exact congrArg some e
 · rename_i q
   rw [q] at e
   have a : es.toList.any (·.refKey) = false := by
     rw [List.any_eq_false]
     intro y hy
     obtain ⟨z, t, hkey⟩ := hk y (Array.mem_toList_iff.mp hy)
     simp [DictEntry.refKey, hkey]
   have a' : ¬ es.toList.any (·.refKey) = true := by rw [a]; exact Bool.false_ne_true
   rw [if_neg a']
   exact congrArg some e
theorem ObjM.look {h : Heap} {x dx C : Addr} {mA : Str → Option Value} (I : ObjM h x dx C mA) : ∃ od, W.InstAt h x (W.instObj C dx) C (some od) ∧ ∀ name, W.lookIn name od = some (mA name) :=
 let ⟨od, ho, hl⟩ := lookIn_ns I.ns
 ⟨od, ⟨I.obj, rfl, rfl, ho⟩, hl⟩
section
variable {prog : Program} {w : World} {A : Around} {E : Value → Shared → Prop} {s : Shared} {K : W.Frag} {x dx C f : Addr} {mA : Str → Option Value} {name : Str} {v : Value}
theorem get_map {expr : Bool} {Q : Value → Shared → Prop} (X : K.In s.heap) (I : ObjM s.heap x dx C mA) (hg : W.plainGet K C name = true) (hh : W.hasDictIn K C = true)
   (ha : W.findIn K (.ref C) name = some none) (hv : mA name = some v) (hv' : W.handedIn v = true) (h : Q v { s with toks := s.toks + 1 }) :
   wpAny (model prog w) A (getAttr (.ref x) name expr) Q E s := by
 obtain ⟨od, J, hl⟩ := I.look
 exact W.get_value X J (W.plainGet_of hg).1 (W.findObj_own hh ha rfl (by rw [hl, hv])) hv' h
theorem get_meth {pl : Sem Bool} {Q : Value × List Value → Shared → Prop} (X : K.In s.heap) (I : ObjM s.heap x dx C mA) (hg : W.plainGet K C name = true)
   (hf : W.findIn K (.ref C) name = some (some (.ref f))) (ht : W.isFn K (.ref f) = true) (hv : mA name = none) (h : Q (.ref f, [.ref x]) s) :
   wpAny (model prog w) A (getMethod (.ref x) name pl) Q E s := by
 obtain ⟨od, J, hl⟩ := I.look
 exact W.method_fn X J (W.plainGet_of hg).1 (W.plainGet_of hg).2 hf (beq_iff_eq.mp ht) (by show (W.lookIn name od).map (·.isSome) = some false; rw [hl, hv]; rfl) h
theorem set_map {ns : List Str} {Q : Unit → Shared → Prop} (X : K.In s.heap) (I : ObjM s.heap x dx C mA)
   (hs : W.findIn K (.ref C) "__setattr__" = some (some (.builtin "object.__setattr__"))) (hp : W.plainOver K C = true) (ht : W.takerIn K C name = some none) (hh : W.hasDictIn K C = true)
   (hw : PySem.Within mA ns) (hsz : ns.length ≤ sizeLine)
   (h : ∀ h', ObjM h' x dx C (fun y => if y = name then some v else mA y) → Heap.SameBut dx s.heap h' → Q () { s with heap := h', toks := s.toks + 2 }) :
   wpAny (model prog w) A (setAttr (.ref x) name v) Q E s := by
 obtain ⟨od, J, hl⟩ := I.look
 refine W.set_plain X J hs (W.osa_open (s := { s with toks := s.toks + 1 }) (r := none) X J hp ht fun b => ?_)
 obtain ⟨cd, hc, hd'⟩ := W.any_some hh
 have hx : s.heap.get? x = some ⟨.ref C, some dx, .plain, #[]⟩ := I.obj
 refine wpAny_bind (wpAny_pure (wpAny_bind (wpAny_bind (wpAny_loadPart hx (wpAny_bind (W.Looks.here (s := { s with toks := s.toks + 1 }) (W.looks_clsIn X hc) ?_))))))
 rw [hd']
 refine wpAny_pure (a := some dx) (wpAny_bind (wpAny_pure (wpAny_bind ?_)))
 refine wpAny_nsSet1 (s := { s with toks := s.toks + 1 }) I.ns fun h' hn2 hs2 => ?_
 obtain ⟨oD, esD, epD, hoD, hdD, hcD⟩ := hn2.count (PySem.Within.cons name v hw)
 refine wpAny_bind (wpAny_lookBehind hoD (by rw [hdD]; exact pastItsLine_dict (Nat.le_trans hcD (by rw [List.length_cons]; omega))) ?_)
 exact wpAny_pure (h _ ⟨(hs2.2 _ (Ne.symm I.ne)).trans I.obj, hn2, I.ne⟩ hs2)
theorem make_map {R : Result → Shared → Prop} {vs : List Value} {kw : List (Str × Value)} (X : K.In s.heap) (hm : W.makesIn K C = true)
   (hi : W.findIn K (.ref C) "__init__" = some (some (.ref f))) (hf : W.typeIn K (.ref f) = some (.type "function"))
   (h : codeAny (model prog w) (A.under (.builtin "type.__call__" ⟨.ref C :: vs, kw⟩)) (.call (.ref f) ⟨.ref (s.heap.objs.size + 1) :: vs, kw⟩) (W.InitBack (s.heap.objs.size + 1) R)
     { s with heap := (s.heap.push W.emptyDict).push (W.instObj C s.heap.objs.size) }) :
   codeAny (model prog w) A (.call (.ref C) ⟨vs, kw⟩) R s := by
 obtain ⟨hh, g, d, t, os⟩ := s
 exact W.make_core (W.makes_of X hm) (W.looks_findIn X hi) (fun self => W.bind_fn X self hf) (.inl rfl) h
end
def putF (f : Str) (v : V) : List (Str × V) → List (Str × V)
 | [] => [(f, v)]
 | (g, x) :: r => if g = f then (g, v) :: r else (g, x) :: putF f v r
theorem Uh (f g : Str) (v : V) : ∀ fs : List (Str × V), (putF f v fs).lookup g = if g = f then some v else fs.lookup g
 | [] => by
   show List.lookup g [(f, v)] = _
   by_cases h : g = f
   · have hb : (g == f) = true := beq_iff_eq.mpr h
     simp only [List.lookup, hb, if_pos h]
   · have hb : (g == f) = false := beq_eq_false_iff_ne.mpr h
     simp only [List.lookup, hb, if_neg h]
 | (k, x) :: r => by
   have ih := Uh f g v r
   rw [show putF f v ((k, x) :: r) = (if k = f then (k, v) :: r else (k, x) :: putF f v r) from rfl]
   by_cases hk : k = f
   · rw [if_pos hk]
     by_cases h : g = k
     · have hb : (g == k) = true := beq_iff_eq.mpr h
       simp only [List.lookup, hb, if_pos (h.trans hk)]
     · have hb : (g == k) = false := beq_eq_false_iff_ne.mpr h
       simp only [List.lookup, hb, if_neg (fun e : g = f => h (e.trans hk.symm))]
   · rw [if_neg hk]
     by_cases h : g = k
     · have hb : (g == k) = true := beq_iff_eq.mpr h
       simp only [List.lookup, hb, if_neg (fun e : g = f => hk (h.symm.trans e))]
     · have hb : (g == k) = false := beq_eq_false_iff_ne.mpr h
       simp only [List.lookup, hb]
       exact ih
theorem VZ (f : Str) (v : V) : ∀ fs : List (Str × V), f ∈ (putF f v fs).map (·.1) ∧ ∀ g, g ∈ fs.map (·.1) → g ∈ (putF f v fs).map (·.1)
 | [] => ⟨by simp [putF], fun g h => by simp at h⟩
 | (k, x) :: r => by
   obtain ⟨i1, i2⟩ := VZ f v r
   rw [show putF f v ((k, x) :: r) = (if k = f then (k, v) :: r else (k, x) :: putF f v r) from rfl]
   by_cases hk : k = f
   · rw [if_pos hk]
     subst hk
     exact ⟨by simp, fun g h => by simpa using h⟩
   · rw [if_neg hk]
     refine ⟨?_, fun g h => ?_⟩
     · rw [List.map_cons]
       exact List.mem_cons_of_mem _ i1
     · rw [List.map_cons] at h ⊢
       rcases List.mem_cons.mp h with e | e
       · exact List.mem_cons.mpr (.inl e)
       · exact List.mem_cons_of_mem _ (i2 g e)
theorem Ui (f : Str) (v : V) : ∀ fs : List (Str × V), (putF f v fs).length ≤ fs.length + 1
 | [] => by simp [putF]
 | (k, x) :: r => by
   have ih := Ui f v r
   rw [show putF f v ((k, x) :: r) = (if k = f then (k, v) :: r else (k, x) :: putF f v r) from rfl]
   by_cases hk : k = f
   · rw [if_pos hk, List.length_cons, List.length_cons]; omega
   · rw [if_neg hk, List.length_cons, List.length_cons]; omega
theorem RelO.some_of {v : V} {o : Option Value} (r : RelO (some v) o) : ∃ u, o = some u ∧ RelV v u := by
 cases o with
 | none => exact (show False from r).elim
 | some u => exact ⟨u, rfl, r⟩
theorem RelO.none_of {o : Option Value} (r : RelO none o) : o = none := by
 cases o with
 | none => rfl
 | some u => exact (show False from r).elim
theorem handed_of {v : V} {u : Value} (r : RelV v u) : W.handedIn u = true := by
 cases v with
 | non => cases (show u = Value.none from r); rfl
 | bl b => cases (show u = Value.bool b from r); rfl
 | int i => obtain ⟨t, e⟩ := (show ∃ t, u = Value.int i t from r); cases e; rfl
 | str x => obtain ⟨t, e⟩ := (show ∃ t, u = Value.str x t from r); cases e; rfl
 | byt b => obtain ⟨t, e⟩ := (show ∃ t, u = Value.bytes b t from r); cases e; rfl
 | flt b => obtain ⟨t, e⟩ := (show ∃ t, u = Value.float b t from r); cases e; rfl
 | ref a => cases (show u = Value.ref a from r); rfl
 | ty n => cases (show u = Value.type n from r); rfl
section
variable {P : Program} {w : World} {H H' : Hp} {h h' : Heap} {a C dx : Addr} {fs fs' : List (Str × V)}
theorem Uv (hok : HOk P w H h) (e : H a = some (.ins C dx fs)) : ∃ mA, ObjM h a dx C mA ∧ (∀ f, RelO (fs.lookup f) (mA f)) ∧ PySem.Within mA (fs.map (·.1)) ∧ fs.length ≤ 1000 ∧ H dx = some (.own a) := by
 obtain ⟨d, z, ne, ob, mA, n, r, q⟩ := (show ObjOk P w H h a (.ins C dx fs) from hok a _ e)
 exact ⟨mA, ⟨ob, n, ne⟩, r, q, z, d⟩
end
structure Cls (K : W.Frag) (C : Addr) : Prop where
 pg : W.plainGet K C Str.empty = true
 hd : W.hasDictIn K C = true
 po : W.plainOver K C = true
 sa : W.findIn K (.ref C) "__setattr__" = some (some (.builtin "object.__setattr__"))
theorem Cls.get {K : W.Frag} {C : Addr} (c : Cls K C) (f : Str) : W.plainGet K C f = true := c.pg
def NoAttr (K : W.Frag) (C : Addr) (f : Str) : Prop := W.findIn K (.ref C) f = some none
theorem NoAttr.taker {K : W.Frag} {C : Addr} {f : Str} (n : NoAttr K C f) : W.takerIn K C f = some none := by
 unfold W.takerIn
 rw [show W.findIn K (.ref C) f = some none from n]
 rfl
structure Meth (K : W.Frag) (C : Addr) (m : Str) (f : Addr) : Prop where
 at_ : W.findIn K (.ref C) m = some (some (.ref f))
 fn : W.isFn K (.ref f) = true
 kp : W.keepIn K (.ref f) = true
section
variable {X : Cx} {pins : List (Addr × Obj)} {σ : St} {H : Hp} {s : Shared} {a C dx : Addr} {fs : List (Str × V)} {f : Str} {v : V} {A : Around} {E : Value → Shared → Prop}
theorem getattr_ok {b : Bool} {Q : Value → Shared → Prop} (I : Inv X pins σ H s) (e : H a = some (.ins C dx fs)) (c : Cls X.K C) (n : NoAttr X.K C f) (l : fs.lookup f = some v)
   (h : ∀ u s', Inv X pins σ H s' → RelV v u → Q u s') : wpAny (model X.prog X.w) A (getAttr (.ref a) f b) Q E s := by
 obtain ⟨mA, O, r, _, _, _⟩ := Uv I.hok e
 obtain ⟨u, hu, ru⟩ := RelO.some_of (v := v) (o := mA f) (by rw [← l]; exact r f)
 exact get_map I.kIn O (c.get f) c.hd n hu (handed_of ru) (h u _ (I.tok _) ru)
theorem Ti {m : Str} {g : Addr} {pl : Sem Bool} {Q : Value × List Value → Shared → Prop} (I : Inv X pins σ H s) (e : H a = some (.ins C dx fs)) (c : Cls X.K C) (k : Meth X.K C m g) (l : fs.lookup m = none)
   (h : Q (.ref g, [.ref a]) s) : wpAny (model X.prog X.w) A (getMethod (.ref a) m pl) Q E s := by
 obtain ⟨mA, O, r, _, _, _⟩ := Uv I.hok e
 have hn : mA m = none := RelO.none_of (by rw [← l]; exact r m)
 exact get_meth I.kIn O (c.get m) k.at_ k.fn hn h
theorem setattr_ok {y : V} {u : Value} {Q : Unit → Shared → Prop} (I : Inv X pins σ H s) (e : H a = some (.ins C dx fs)) (c : Cls X.K C) (n : NoAttr X.K C f) (hl : fs.length < 1000) (ry : RelV y u)
   (h : ∀ s', Inv X pins σ (upd H a (.ins C dx (putF f y fs))) s' → Q () s') : wpAny (model X.prog X.w) A (setAttr (.ref a) f u) Q E s := by
 obtain ⟨mA, O, r, wi, _, ho⟩ := Uv I.hok e
 have hz : (fs.map (·.1)).length ≤ sizeLine := by rw [List.length_map, sizeLine_eq]; omega
 refine set_map I.kIn O c.sa c.po n.taker c.hd wi hz fun h' O' sb => h _ ?_
 have hd : ∃ o, h'.get? dx = some o := let ⟨o, _, _, e', _⟩ := O'.ns; ⟨o, e'⟩
 refine I.write (x := a) (e := dx) (by rw [e]; exact True.intro) (.inr ho) (fun b q hb z => (sb.2 b hb).trans z) hd ?_
 refine ⟨by rw [Zc O.ne]; exact ho, ?_, O.ne, O'.obj, _, O'.ns, fun g => ?_, fun g hg => ?_⟩
 · have := Ui f y fs; omega
 · show RelO ((putF f y fs).lookup g) (if g = f then some u else mA g)
   rw [Uh]
   by_cases q : g = f
   · rw [if_pos q, if_pos q]; exact ry
   · rw [if_neg q, if_neg q]; exact r g
 · by_cases q : g = f
   · rw [q]; exact (VZ f y fs).1
   · refine (VZ f y fs).2 g (wi g fun z => hg ?_)
     show (if g = f then some u else mA g) = none
     rw [if_neg q]; exact z
theorem Inv.made (I : Inv X pins σ H s) : Inv X pins σ (upd (upd H s.heap.objs.size (.own (s.heap.objs.size + 1))) (s.heap.objs.size + 1) (.ins C s.heap.objs.size []))
   { s with heap := (s.heap.push W.emptyDict).push (W.instObj C s.heap.objs.size) } := by
 have e1 : (s.heap.push W.emptyDict).get? s.heap.objs.size = some W.emptyDict := Heap.get?_push_size s.heap rfl
 have e2 : ((s.heap.push W.emptyDict).push (W.instObj C s.heap.objs.size)).get? (s.heap.objs.size + 1) = some (W.instObj C s.heap.objs.size) := by
   have := Heap.get?_push_size (s.heap.push W.emptyDict) (o := W.instObj C s.heap.objs.size) rfl
   rwa [Heap.size_push] at this
 have e3 : (s.heap.push W.emptyDict).Ns s.heap.objs.size (fun _ => none) := ⟨W.emptyDict, #[], _, e1, rfl, (fun e he => absurd he (by simp)), fun _ => rfl⟩
 have I1 := I.laid (a := s.heap.objs.size) (o := .own (s.heap.objs.size + 1)) (h' := s.heap.push W.emptyDict) (t' := s.toks) (fun b u q => Heap.get?_push_of_some _ q) (Nat.le_refl _) ⟨_, e1⟩
 refine I1.laid (a := s.heap.objs.size + 1) (o := .ins C s.heap.objs.size []) (t' := s.toks) (fun b u q => Heap.get?_push_of_some _ q) (Nat.le_of_eq (Heap.size_push _ _)) ?_
 have ne : s.heap.objs.size ≠ s.heap.objs.size + 1 := Nat.ne_of_lt (Nat.lt_succ_self _)
 refine ⟨by rw [Zc ne, Zb], Nat.zero_le _, ne, e2, fun _ => none, (Heap.Ns1.of_empty e3).at fun o q => Heap.get?_push_of_some _ q, fun _ => True.intro, fun y hy => absurd rfl hy⟩
theorem attr_of {prog : Program} {w : World} {env : Env} {e : Expr} {f : Str} {pos : Pos} {s : Shared} {Q : Value → Shared → Prop} (hb : attributeBase e f env (eval e env) = eval e env)
   (h : wpAny (model prog w) A (eval e env) (fun o s₁ => wpAny (model prog w) A (getAttr o f true) Q E s₁) E s) : wpAny (model prog w) A (eval (.Attribute e f pos) env) Q E s :=
 Attribute_any_ h (by rw [arm_eval_Attribute, hb])
end
def tFld (K : W.Frag) (ta : TE) (f : Str) : TE := fun σ H Q => ta σ H fun x H1 => ∃ a C dx fs v, x = .ref a ∧ H1 a = some (.ins C dx fs) ∧ Cls K C ∧ NoAttr K C f ∧ fs.lookup f = some v ∧ Q v H1
def sFld (K : W.Frag) (ta tv : TE) (f : Str) : TS := fun D σ H => tv σ H fun y H1 => ta σ H1 fun x H2 => ∃ a C dx fs, x = .ref a ∧ H2 a = some (.ins C dx fs) ∧ Cls K C ∧ NoAttr K C f ∧ fs.length < 1000 ∧
 D.nx σ (upd H2 a (.ins C dx (putF f y fs)))
section
variable {X : Cx} {o e value : Expr} {f : Str} {pos pos' tpos : Pos} {ta tv : TE}
theorem Zp (he : PE X e ta) (hb : attributeBase e f X.env (eval e X.env) = eval e X.env) : PE X (.Attribute e f pos) (tFld X.K ta f) := by
 intro pins s σ H Q I h
 refine attr_of hb (thn (he pins s σ H _ I h) fun u s1 ⟨x, H1, I1, rx, a, C, dx, fs, v, ex, ea, c, n, l, q⟩ => ?_)
 subst ex
 obtain rfl : u = Value.ref a := rx
 exact getattr_ok I1 ea c n l fun u' s2 I2 ru => ⟨v, H1, I2, ru, q⟩
theorem Yo (ha : PE X o ta) (hv : PE X value tv) (hs : swapsWith value (some (.Attribute o f pos')) pos.line X.env = pure false) : PS X (.Assign [.Attribute o f pos'] value pos) (sFld X.K ta tv f) := by
 intro pins s σ H D I h
 refine plainObj_wpAny_Assign_Attribute (thn (hv pins s σ H _ I h) fun u s1 ⟨y, H1, I1, ry, q⟩ => thn (ha pins s1 σ H1 _ I1 q) fun ov s2 ⟨x, H2, I2, rx, a, C, dx, fs, ex, ea, c, n, l, q2⟩ => ?_) hs
 subst ex
 obtain rfl : ov = Value.ref a := rx
 exact setattr_ok I2 ea c n l ry fun s3 I3 => ⟨σ, _, I3, q2⟩
end
section
variable {X : Cx} {pins : List (Addr × Obj)} {σ : St} {H : Hp} {s : Shared} {A : Around} {E : Value → Shared → Prop} {Q : Value → Shared → Prop} {c : Value} {b : Bool}
inductive TyOf (K : W.Frag) (H : Hp) : V → Value → Prop where
 | non : TyOf K H .non (.type "NoneType")
 | bl (x : Bool) : TyOf K H (.bl x) (.type "bool")
 | int (i : Int) : TyOf K H (.int i) (.type "int")
 | str (x : Str) : TyOf K H (.str x) (.type "str")
 | flt (x : UInt64) : TyOf K H (.flt x) (.type "float")
 | lst {a : Addr} {xs : List V} (e : H a = some (.lst xs)) : TyOf K H (.ref a) (.type "list")
 | frz {a : Addr} {o : Obj} {xs : List V} (e : H a = some (.frz o (.lst xs))) : TyOf K H (.ref a) (.type "list")
 | tup {a : Addr} {xs : List V} (e : H a = some (.tup xs)) : TyOf K H (.ref a) (.type "tuple")
 | dK {a : Addr} {kvs : List (Key × V)} (e : H a = some (.dK kvs)) : TyOf K H (.ref a) (.type "dict")
 | dT {a : Addr} {kvs : List (List Key × V)} (e : H a = some (.dT kvs)) : TyOf K H (.ref a) (.type "dict")
 | ins {a C dx : Addr} {fs : List (Str × V)} (e : H a = some (.ins C dx fs)) (cl : Cls K C) (ha : W.findIn K (.ref C) "__class__" = some (some (.builtin "object.__class__")))
     (hn : W.specialIn K (.builtin "object.__class__") "__get__" = some (some (.builtin "getset_descriptor.__get__"))) (htk : W.takesIn K (.builtin "object.__class__") = some true)
     (hm : W.mroIn K C (.type "object") = some true) : TyOf K H (.ref a) (.ref C)
theorem isinst_ok {x : V} {u t : Value} (I : Inv X pins σ H s) (rx : RelV x u) (ty : TyOf X.K H x t) (e : W.kitOne X.K t c = some b) (h : ∀ tk, Q (.bool b) { s with toks := tk }) :
   wpAny (model X.prog X.w) A (call (.builtin "isinstance") [u, c]) Q E s := by
 cases ty with
 | non => cases (show u = Value.none from rx); exact W.kia_one W.kitx_none I.kIn True.intro e (fun z => nomatch z) h
 | bl y => cases (show u = Value.bool y from rx); exact W.kia_one W.kitx_bool I.kIn True.intro e (fun z => nomatch z) h
 | int i => obtain ⟨t, q⟩ := (show ∃ t, u = Value.int i t from rx); cases q; exact W.kia_one W.kitx_int I.kIn True.intro e (fun z => nomatch z) h
 | str y => obtain ⟨t, q⟩ := (show ∃ t, u = Value.str y t from rx); cases q; exact W.kia_one W.kitx_str I.kIn True.intro e (fun z => nomatch z) h
 | flt y => obtain ⟨t, q⟩ := (show ∃ t, u = Value.float y t from rx); cases q; exact W.kia_one W.kitx_float I.kIn True.intro e (fun z => nomatch z) h
 | @lst a xs ea =>
   cases (show u = Value.ref a from rx)
   obtain ⟨_, _, n, _, h1⟩ := (show ObjOk X.prog X.w H s.heap a (.lst xs) from I.hok a _ ea)
   exact W.kia_one W.kitx_list I.kIn ⟨_, h1, rfl⟩ e (fun z => nomatch z) h
 | @frz a ob xs ea =>
   cases (show u = Value.ref a from rx)
   obtain ⟨_, _, _, n, _, h1⟩ := (show ObjOk X.prog X.w H s.heap a (.frz ob (.lst xs)) from I.hok a _ ea)
   exact W.kia_one W.kitx_list I.kIn ⟨_, h1, rfl⟩ e (fun z => nomatch z) h
 | @tup a xs ea =>
   cases (show u = Value.ref a from rx)
   obtain ⟨_, _, _, p⟩ := (show ObjOk X.prog X.w H s.heap a (.tup xs) from I.hok a _ ea)
   obtain ⟨o, h1, h2, _⟩ := p
   exact W.kia_one W.kitx_tuple I.kIn ⟨o, h1, h2⟩ e (fun z => nomatch z) h
 | @dK a kvs ea =>
   cases (show u = Value.ref a from rx)
   obtain ⟨_, _, vs, _, p⟩ := (show ObjOk X.prog X.w H s.heap a (.dK kvs) from I.hok a _ ea)
   obtain ⟨o, es, ep, h1, h2, _⟩ := p
   exact W.kia_one W.kitx_dict I.kIn ⟨o, h1, h2.1⟩ e (fun z => nomatch z) h
 | @dT a kvs ea =>
   cases (show u = Value.ref a from rx)
   obtain ⟨_, _, xs, _, o, es, ep, h1, h2, _⟩ := (show ObjOk X.prog X.w H s.heap a (.dT kvs) from I.hok a _ ea)
   exact W.kia_one W.kitx_dict I.kIn ⟨o, h1, h2.1⟩ e (fun z => nomatch z) h
 | @ins a C dx fs ea cl ha hn htk hm =>
   cases (show u = Value.ref a from rx)
   obtain ⟨mA, O, _⟩ := Uv I.hok ea
   obtain ⟨od, J, _⟩ := O.look
   exact W.kia_one (W.kitx_own (cl.get _) cl.hd ha hn htk hm) I.kIn J e (fun z => nomatch z) h
end
end L2
namespace L2
open PySem PySem.Spec PyProof.Rows
structure Room (k : Nat) (A : Around) : Prop where
 hd : A.handled = none
 dp : A.depth + 3 * k + 5 < recursionLimit
 un : A.units + 16 * k + 200 < cLine
theorem Room.mono {j k : Nat} {A : Around} (r : Room k A) (h : j ≤ k) : Room j A := ⟨r.hd, by have := r.dp; omega, by have := r.un; omega⟩
theorem Room.deeper {k : Nat} {A : Around} (r : Room (k + 1) A) (env : Env) : Room k (A.deeper env) :=
 ⟨r.hd, by have := r.dp; show A.depth + 1 + 3 * k + 5 < _; omega, by have := r.un; show A.units + 3 + 16 * k + 200 < _; omega⟩
theorem make_depth {A : Around} {C : Addr} {us : List Value} {kw : List (Str × Value)} : (A.under (.builtin "type.__call__" ⟨.ref C :: us, kw⟩)).depth = A.depth + 1 := by
 first | rfl | simp [Around.under, Code.weight, Code.isCreation, Code.isGuard, Code.isCaller, Code.frames, Code.isFrame, guardIds]
theorem make_units {A : Around} {C : Addr} {us : List Value} {kw : List (Str × Value)} : (A.under (.builtin "type.__call__" ⟨.ref C :: us, kw⟩)).units = A.units + 1 := by
 first | rfl | simp [Around.under, Code.cUnits, Code.frames, Code.isFrame]
theorem Room.make {k : Nat} {A : Around} (r : Room (k + 1) A) (C : Addr) (us : List Value) (kw : List (Str × Value)) : Room k (A.under (.builtin "type.__call__" ⟨.ref C :: us, kw⟩)) :=
 ⟨r.hd, by have := r.dp; rw [make_depth]; omega, by have := r.un; rw [make_units]; omega⟩
theorem Room.depth {k : Nat} {A : Around} (r : Room k A) : A.depth < recursionLimit := by have := r.dp; omega
theorem Room.units {k : Nat} {A : Around} (r : Room k A) : A.units + 64 < cLine := by have := r.un; omega
def tNil : TA := fun _ H Q => Q [] H
def UE (ta : TE) (tr : TA) : TA := fun σ H Q => ta σ H fun x H1 => tr σ H1 fun xs H2 => Q (x :: xs) H2
section
variable {X : Cx} {e : Expr} {es : List Expr} {te : TE} {t : TA} {pos : Pos}
theorem Zf : PA X [] tNil := fun _ _ _ _ H Q I h => Calls.spliced_nil ⟨[], H, I, .nil, h⟩
theorem Za (ha : PE X e te) (hr : PA X es t) (hs : starEach (e :: es) X.env = (false, eval e X.env) :: starEach es X.env := by rfl) : PA X (e :: es) (UE te t) := by
 intro pos pins s σ H Q I h
 rw [hs]
 show wpAny _ _ (spliced ((false, eval e X.env) :: backTo pos (starEach es X.env))) _ _ s
 refine Calls.spliced_cons (thn (ha pins s σ H _ I h) fun u s1 ⟨x, H1, I1, r1, q1⟩ => ?_)
 exact thn (hr pos pins s1 σ H1 _ I1 q1) fun us s2 ⟨xs, H2, I2, r2, q2⟩ => ⟨x :: xs, H2, I2, .cons r1 r2, q2⟩
def tTup (t : TA) : TE := fun σ H Q => t σ H fun xs H1 => xs.length ≤ sizeLine ∧ ∀ p, H1 p = none → Q (.ref p) (upd H1 p (.tup xs))
def tLst (t : TA) : TE := fun σ H Q => t σ H fun xs H1 => xs.length ≤ sizeLine ∧ ∀ p, H1 p = none → Q (.ref p) (upd H1 p (.lst xs))
theorem Vn {x1} (h : PA X es t) : PE X (.Tuple es x1 pos) (tTup t) := by
 intro pins s σ H Q I hq
 refine wpAny_Tuple_spliced (thn (h pos pins s σ H _ I hq) fun us s1 ⟨xs, H1, I1, r, z, q⟩ => ⟨by rw [← r.length]; exact z, ?_⟩)
 have hf : H1 s1.heap.objs.size = none := I1.hok.fresh (Nat.le_refl _)
 refine ⟨.ref s1.heap.objs.size, upd H1 s1.heap.objs.size (.tup xs), I1.laid (t' := s1.toks) (fun b u e => Heap.get?_push_of_some _ e) (Nat.le_refl _) ?_, rfl, q _ hf⟩
 exact ⟨z, us, r, ⟨_, Heap.get?_push_size _ rfl, rfl, _, rfl⟩⟩
theorem YX (h : PA X es t) : PE X (.List es pos) (tLst t) := by
 intro pins s σ H Q I hq
 refine wpAny_List_spliced (thn (h pos pins s σ H _ I hq) fun us s1 ⟨xs, H1, I1, r, z, q⟩ => ⟨by rw [← r.length]; exact z, ?_⟩)
 have hf : H1 s1.heap.objs.size = none := I1.hok.fresh (Nat.le_refl _)
 refine ⟨.ref s1.heap.objs.size, upd H1 s1.heap.objs.size (.lst xs), I1.laid (t' := s1.toks) (fun b u e => Heap.get?_push_of_some _ e) (Nat.le_refl _) ?_, rfl, q _ hf⟩
 exact ⟨z, us, 0, r, Heap.get?_push_size _ rfl⟩
end
abbrev Sp := List V → Hp → VK → XK → Prop
abbrev CXT := List Env → Hp → Shared → XK → Value → Shared → Prop
structure Env0 (P : Program) (w : World) (K : W.Frag) (mg : Str → Option Value) (base : Heap) (A : Around) (outer : List Env) (s : Shared) (H : Hp) : Prop where
 frames : A.frames = some outer
 mod : Mod K mg base
 bs : ∀ b o, base.get? b = some o → s.heap.get? b = some o ∧ H b = none
 bsz : base.objs.size ≤ s.heap.objs.size
 funs : s.heap.FunFrames base outer
 frf : ∀ b ∈ frs outer, H b = none
 hok : HOk P w H s.heap
 bare : AllBare s.gens
def CE (outer : List Env) (P : Program) (w : World) (H : Hp) (s : Shared) (Q : VK) (u : Value) (s' : Shared) : Prop :=
 ∃ v H', s'.os = s.os ∧ AllBare s'.gens ∧ Un (frs outer) [] H H' s.heap s'.heap ∧ HOk P w H' s'.heap ∧ RelV v u ∧ Q v H'
def CR (CX : CXT) (outer : List Env) (P : Program) (w : World) (H : Hp) (s : Shared) (Q : VK) (E : XK) (r : Result) (s' : Shared) : Prop :=
 match r with
 | .ok (.ret u) => CE outer P w H s Q u s'
 | .ok _ => False
 | .error e => CX outer H s E e s'
structure FnOk (P : Program) (w : World) (K : W.Frag) (mg : Str → Option Value) (base : Heap) (CX : CXT) (k : Nat) (f : Addr) (fd : FuncData) (ps : List Str) (sp : Sp) : Prop where
 len : ∀ vs H Q E, sp vs H Q E → vs.length = ps.length
 run : ∀ (A : Around) (outer : List Env) (s : Shared) (H : Hp) (args : Args) (us : List Value) (vs : List V) (Q : VK) (E : XK), Room k A → Env0 P w K mg base A outer s H → BindsTo s fd args (ps.zip us) → Vals vs us → sp vs H Q E →
   codeAny (model P w) A (.call (.ref f) args) (CR CX outer P w H s Q E) s
theorem FnOk.mono {P : Program} {w : World} {K : W.Frag} {mg : Str → Option Value} {base : Heap} {CX : CXT} {j k : Nat} {f : Addr} {fd : FuncData} {ps : List Str} {sp : Sp} (F : FnOk P w K mg base CX j f fd ps sp) (h : j ≤ k) :
   FnOk P w K mg base CX k f fd ps sp := ⟨F.len, fun A outer s H args us vs Q E hr => F.run A outer s H args us vs Q E (hr.mono h)⟩
theorem FnOk.imp {P : Program} {w : World} {K : W.Frag} {mg : Str → Option Value} {base : Heap} {CX : CXT} {k : Nat} {f : Addr} {fd : FuncData} {ps : List Str} {sp sp' : Sp} (F : FnOk P w K mg base CX k f fd ps sp)
   (h : ∀ vs H Q E, sp' vs H Q E → sp vs H Q E) : FnOk P w K mg base CX k f fd ps sp' :=
 ⟨fun vs H Q E q => F.len vs H Q E (h _ _ _ _ q), fun A outer s H args us vs Q E hr he hb hv hs => F.run A outer s H args us vs Q E hr he hb hv (h _ _ _ _ hs)⟩
theorem Env0.make {P : Program} {w : World} {K : W.Frag} {mg : Str → Option Value} {base : Heap} {A : Around} {outer : List Env} {s : Shared} {H : Hp} (e : Env0 P w K mg base A outer s H) (C : Addr) (us : List Value) (kw : List (Str × Value)) :
   Env0 P w K mg base (A.under (.builtin "type.__call__" ⟨.ref C :: us, kw⟩)) outer s H := ⟨by first | exact e.frames | (simpa [Around.under, Code.envs, Code.isFrame, pushEnvs] using e.frames), e.mod, e.bs, e.bsz, e.funs, e.frf, e.hok, e.bare⟩
section
variable {X : Cx} {pins : List (Addr × Obj)} {σ : St} {H : Hp} {s s' : Shared}
theorem Inv.env0 (I : Inv X pins σ H s) : Env0 X.prog X.w X.K X.mg X.base X.A X.stack s H :=
 ⟨I.ok.frames, I.ok.mod, I.bs, Nat.le_trans I.ok.bsz I.sz, I.stack, I.stkFree, I.hok, I.bare⟩
theorem Inv.after {Q : VK} {u : Value} (I : Inv X pins σ H s) (h : CE X.stack X.prog X.w H s Q u s') : EP X pins σ Q u s' := by
 obtain ⟨v, H', os, bare, un, hok, r, q⟩ := h
 obtain ⟨hh, g, d, t, os'⟩ := s'
 obtain rfl : os' = s.os := os
 exact ⟨v, H', I.call (h' := hh) (g' := g) (d' := d) (t' := t) (ch := []) un hok bare (fun b z => absurd z (by simp)), r, q⟩
end
def tCall (sp : Sp) (dvs : List V) (E : XK) (t : TA) : TE := fun σ H Q => t σ H fun vs H1 => sp (vs ++ dvs) H1 Q E
def tMeth (C : Addr) (m : Str) (sp : Sp) (dvs : List V) (E : XK) (ta : TE) (t : TA) : TE := fun σ H Q => ta σ H fun x H1 => ∃ a dx fs, x = .ref a ∧ H1 a = some (.ins C dx fs) ∧ fs.lookup m = none ∧
 t σ H1 fun vs H2 => sp (x :: (vs ++ dvs)) H2 Q E
def tMake (C : Addr) (sp : Sp) (dvs : List V) (E : XK) (t : TA) : TE := fun σ H Q => t σ H fun vs H1 => ∀ x dx, H1 x = none → H1 dx = none → dx ≠ x →
 sp (.ref x :: (vs ++ dvs)) (upd (upd H1 dx (.own x)) x (.ins C dx [])) (fun v H2 => v = .non ∧ Q (.ref x) H2) E
def Binds (K : W.Frag) (fd : FuncData) (ps : List Str) (ds : List Value) : Prop :=
 ∀ (s : Shared) (us : List Value), K.In s.heap → (us ++ ds).length = ps.length → BindsTo s fd ⟨us, []⟩ (ps.zip (us ++ ds))
theorem Binds.all {K : W.Frag} {fd : FuncData} {ps : List Str} (h : ∀ us : List Value, us.length = ps.length → bindArgs fd ⟨us, []⟩ = pure (ps.zip us)) : Binds K fd ps [] := fun s us _ hl => by
 rw [List.append_nil] at hl ⊢
 exact .of_eq (h us hl)
def XU (CX : CXT) (X : Cx) (E : XK) : Prop := ∀ (pins : List (Addr × Obj)) (σ : St) (H : Hp) (s : Shared) (e : Value) (s' : Shared), Inv X pins σ H s → CX X.stack H s E e s' → X.xe e s'
section
variable {X : Cx} {CX : CXT} {k : Nat} {f C : Addr} {fd : FuncData} {ps : List Str} {sp : Sp} {dvs : List V} {ds : List Value} {E : XK} {x m : Str} {p pos apos : Pos} {e o : Expr} {es : List Expr} {ta : TE} {t : TA}
theorem run_fn {pins : List (Addr × Obj)} {σ : St} {H : Hp} {s : Shared} {Q : VK} {us : List Value} {vs : List V} (F : FnOk X.prog X.w X.K X.mg X.base CX k f fd ps sp) (hr : Room k X.A) (hb : Binds X.K fd ps ds) (hd : Vals dvs ds) (hx : XU CX X E)
   (I : Inv X pins σ H s) (r : Vals vs us) (h : sp (vs ++ dvs) H Q E) : wpAny (model X.prog X.w) X.A (call (.ref f) us) (EP X pins σ Q) X.xe s := by
 have r2 : Vals (vs ++ dvs) (us ++ ds) := r.append hd
 have hl : (us ++ ds).length = ps.length := by rw [← r2.length]; exact F.len _ _ _ _ h
 refine wpAny_call (codeAny_mono (F.run X.A X.stack s H ⟨us, []⟩ (us ++ ds) (vs ++ dvs) Q E hr I.env0 (hb s us I.kIn hl) r2 h) fun r s' hq => ?_)
 cases r with
 | error e => exact hx pins σ H s e s' I hq
 | ok fl =>
   cases fl with
   | ret u => exact I.after hq
   | next => exact False.elim hq
   | brk => exact False.elim hq
   | cont => exact False.elim hq
theorem Zu (F : FnOk X.prog X.w X.K X.mg X.base CX k f fd ps sp) (hr : Room k X.A) (hg : Gl X x) (hm : X.mg x = some (.ref f)) (hk : W.keepIn X.K (.ref f) = true) (hb : Binds X.K fd ps ds) (hd : Vals dvs ds) (hx : XU CX X E)
   (ha : PA X (e :: es) t) (hdb : (x == ("__debug__" : Str)) = false := by decide) (he : starEach (e :: es) X.env = (false, eval e X.env) :: starEach es X.env := by rfl) (hpl : (backTo pos (starEach es X.env)).any (·.1) = false := by rfl) :
   PE X (.Call (.Name x p) (e :: es) [] pos) (tCall sp dvs E t) := by
 intro pins s σ H Q I h
 refine wpAny_Call_Name_kw (Ut I hg hm ?_ hdb)
 refine W.callWith_K (h₀ := X.base) I.ok.mod.kin hk (thn (ha pos pins s σ H _ I h) fun us s1 ⟨vs, H1, I1, r, q⟩ => ⟨I1.kIn, ?_⟩) he hpl
 exact run_fn F hr hb hd hx I1 r q
theorem Vv {pl : Sem Bool} (he : PE X o ta) (c : Cls X.K C) (hm : Meth X.K C m f) (F : FnOk X.prog X.w X.K X.mg X.base CX k f fd ps sp) (hr : Room k X.A) (hb : Binds X.K fd ps ds) (hd : Vals dvs ds) (hx : XU CX X E) (ha : PA X (e :: es) t)
   (hst : starEach (e :: es) X.env = (false, eval e X.env) :: starEach es X.env := by rfl) (hpl : (backTo pos (starEach es X.env)).any (·.1) = false := by rfl)
   (ht : eval (.Call (.Attribute o m apos) (e :: es) [] pos) X.env = (do
     let ov ← eval o X.env
     standAt apos.atName
     let (f, first) ← holding [ov] (getMethod ov m pl)
     callWith pos f first (backTo pos (starEach (e :: es) X.env)) (backToKw pos (keywordEach [] X.env))) := by rfl) :
   PE X (.Call (.Attribute o m apos) (e :: es) [] pos) (tMeth C m sp dvs E ta t) := by
 intro pins s σ H Q I h
 refine W.methodCall_KW (pl := pl) (thn (he pins s σ H _ I h) fun u s1 ⟨x, H1, I1, rx, a, dx, fs, ex, ea, l, q⟩ => ?_) ht
 subst ex
 obtain rfl : u = Value.ref a := rx
 refine Ti I1 ea c hm l ?_
 refine W.callWith_K (first := [.ref a]) (h₀ := X.base) I.ok.mod.kin hm.kp (thn (ha pos pins s1 σ H1 _ I1 q) fun us s2 ⟨vs, H2, I2, r, q2⟩ => ⟨I2.kIn, ?_⟩) hst hpl
 exact run_fn (us := .ref a :: us) (vs := .ref a :: vs) F hr hb hd hx I2 (.cons rfl r) q2
theorem XF {pl : Sem Bool} (he : PE X o ta) (c : Cls X.K C) (hm : Meth X.K C m f) (F : FnOk X.prog X.w X.K X.mg X.base CX k f fd ps sp) (hr : Room k X.A) (hb : Binds X.K fd ps ds) (hd : Vals dvs ds) (hx : XU CX X E)
   (ht : eval (.Call (.Attribute o m apos) [] [] pos) X.env = (do
     let ov ← eval o X.env
     standAt apos.atName
     let (f, first) ← holding [ov] (getMethod ov m pl)
     callWith pos f first (backTo pos (starEach [] X.env)) (backToKw pos (keywordEach [] X.env))) := by rfl) :
   PE X (.Call (.Attribute o m apos) [] [] pos) (tMeth C m sp dvs E ta tNil) := by
 intro pins s σ H Q I h
 refine W.methodCall_KW (pl := pl) (thn (he pins s σ H _ I h) fun u s1 ⟨x, H1, I1, rx, a, dx, fs, ex, ea, l, q⟩ => ?_) ht
 subst ex
 obtain rfl : u = Value.ref a := rx
 refine Ti I1 ea c hm l ?_
 exact W.callWith_K0 (first := [.ref a]) I1.kIn hm.kp (run_fn (us := [.ref a]) (vs := [.ref a]) F hr hb hd hx I1 (.cons rfl .nil) q)
structure Mk (K : W.Frag) (C f : Addr) : Prop where
 makes : W.makesIn K C = true
 init : W.findIn K (.ref C) "__init__" = some (some (.ref f))
 fn : W.isFn K (.ref f) = true
 kp : W.keepIn K (.ref C) = true
theorem run_make {pins : List (Addr × Obj)} {σ : St} {H : Hp} {s : Shared} {Q : VK} {us : List Value} {vs : List V} (M : Mk X.K C f) (F : FnOk X.prog X.w X.K X.mg X.base CX k f fd ps sp) (hr : Room (k + 1) X.A) (hb : Binds X.K fd ps ds) (hd : Vals dvs ds)
   (hx : XU CX X E) (I : Inv X pins σ H s) (r : Vals vs us)
   (h : ∀ x dx, H x = none → H dx = none → dx ≠ x → sp (.ref x :: (vs ++ dvs)) (upd (upd H dx (.own x)) x (.ins C dx [])) (fun v H2 => v = .non ∧ Q (.ref x) H2) E) :
   wpAny (model X.prog X.w) X.A (call (.ref C) us) (EP X pins σ Q) X.xe s := by
 have hq := h (s.heap.objs.size + 1) s.heap.objs.size (I.hok.fresh (Nat.le_succ _)) (I.hok.fresh (Nat.le_refl _)) (Nat.ne_of_lt (Nat.lt_succ_self _))
 have I2 := Inv.made (C := C) I
 have r2 : Vals (V.ref (s.heap.objs.size + 1) :: (vs ++ dvs)) (Value.ref (s.heap.objs.size + 1) :: (us ++ ds)) := .cons rfl (r.append hd)
 have hl : (Value.ref (s.heap.objs.size + 1) :: us ++ ds).length = ps.length := by
   have e := r2.length
   rw [F.len _ _ _ _ hq] at e
   exact e.symm
 refine wpAny_call (make_map (f := f) I.kIn M.makes M.init (beq_iff_eq.mp M.fn) (codeAny_mono (F.run _ X.stack _ _ ⟨Value.ref (s.heap.objs.size + 1) :: us, []⟩ (Value.ref (s.heap.objs.size + 1) :: (us ++ ds)) _ _ E (hr.make C us [])
   (I2.env0.make C us []) (hb _ (Value.ref (s.heap.objs.size + 1) :: us) I2.kIn hl) r2 hq) fun r s' hq' => ?_))
 cases r with
 | error e => exact hx pins σ _ _ e s' I2 hq'
 | ok fl =>
   cases fl with
   | ret u =>
     obtain ⟨v, H', I3, rv, ev, q3⟩ := I2.after hq'
     subst ev
     exact ⟨rv, ⟨V.ref (s.heap.objs.size + 1), H', I3, rfl, q3⟩⟩
   | next => exact False.elim hq'
   | brk => exact False.elim hq'
   | cont => exact False.elim hq'
theorem Vx (M : Mk X.K C f) (F : FnOk X.prog X.w X.K X.mg X.base CX k f fd ps sp) (hr : Room (k + 1) X.A) (hg : Gl X x) (hm : X.mg x = some (.ref C)) (hb : Binds X.K fd ps ds) (hd : Vals dvs ds) (hx : XU CX X E)
   (ha : PA X (e :: es) t) (hdb : (x == ("__debug__" : Str)) = false := by decide) (he : starEach (e :: es) X.env = (false, eval e X.env) :: starEach es X.env := by rfl) (hpl : (backTo pos (starEach es X.env)).any (·.1) = false := by rfl) :
   PE X (.Call (.Name x p) (e :: es) [] pos) (tMake C sp dvs E t) := by
 intro pins s σ H Q I h
 refine wpAny_Call_Name_kw (Ut I hg hm ?_ hdb)
 refine W.callWith_K (h₀ := X.base) I.ok.mod.kin M.kp (thn (ha pos pins s σ H _ I h) fun us s1 ⟨vs, H1, I1, r, q⟩ => ⟨I1.kIn, ?_⟩) he hpl
 exact run_make M F hr hb hd hx I1 r q
end
section
variable {X : Cx} {CX : CXT} {k : Nat} {f C : Addr} {fd : FuncData} {ps ks : List Str} {sp : Sp} {E : XK} {x m : Str} {p pos apos kpos : Pos} {e o : Expr} {es : List Expr} {kws : List Keyword} {te ta : TE} {t tk : TA} {nm : Option Str}
variable {g : List Value → List Value → List Value} {gV : List V → List V → List V}
end
structure FnScope (N P : List Str) (sc : Scope) : Prop where
 kind : sc.kind = .function
 co : sc.isCoroutine = false
 gen : sc.isGenerator = false
 nd : N.Nodup
 pre : N.take P.length = P
 par : ∀ x ∈ P, sc.names.lookup x = some .local ∨ sc.names.lookup x = some .cell
 nofree : ∀ y ∈ sc.names, y.2 ≠ .free
theorem Zr {N P : List Str} {sc : Scope} (a : sc.kind = .function := by rfl) (b : sc.isCoroutine = false := by rfl) (c : sc.isGenerator = false := by rfl) (d : N.Nodup := by decide +kernel) (e : N.take P.length = P := by rfl) (f : ∀ x ∈ P, sc.names.lookup x = some .local ∨ sc.names.lookup x = some .cell := by decide +kernel) (g : ∀ y ∈ sc.names, y.2 ≠ .free := by decide +kernel) : FnScope N P sc := ⟨a, b, c, d, e, f, g⟩
theorem Sb {kindOf : Str → Option NameKind} {x : Str} : ∀ {binds : List (Str × Value)} {m : Str → Option Value}, (∀ v, (x, v) ∉ binds) → bindL kindOf binds m x = m x
 | [], _, _ => rfl
 | (n, v) :: r, m, h => by
   unfold bindL
   rw [Sb fun w hw => h w (List.mem_cons_of_mem _ hw)]
   split
   · have : x ≠ n := by rintro rfl; exact h v List.mem_cons_self
     simp [this]
   · rfl
theorem Sd {kindOf : Str → Option NameKind} {x : Str} : ∀ {binds : List (Str × Value)} {m : Str → Option Value}, (∀ v, (x, v) ∉ binds) → bindC kindOf binds m x = m x
 | [], _, _ => rfl
 | (n, v) :: r, m, h => by
   unfold bindC
   rw [Sd fun w hw => h w (List.mem_cons_of_mem _ hw)]
   split
   · rfl
   · have : x ≠ n := by rintro rfl; exact h v List.mem_cons_self
     simp [this]
theorem Sc {kindOf : Str → Option NameKind} {x : Str} {v : Value} : ∀ {P : List Str} {vs : List Value} {i : Nat} {m : Str → Option Value}, P.Nodup → P[i]? = some x → vs[i]? = some v → kindOf x = some .local →
   bindL kindOf (P.zip vs) m x = some v
 | [], _, _, _, _, h, _, _ => by simp at h
 | _ :: _, [], _, _, _, _, h, _ => by simp at h
 | p :: P, w :: vs, 0, m, nd, h1, h2, hk => by
   simp at h1 h2; subst h1; subst h2
   show bindL kindOf ((p, w) :: P.zip vs) m p = _
   unfold bindL
   rw [Sb fun v hv => (List.nodup_cons.mp nd).1 (List.of_mem_zip hv).1, if_pos hk]
   simp
 | p :: P, w :: vs, i + 1, m, nd, h1, h2, hk => by
   show bindL kindOf ((p, w) :: P.zip vs) m x = _
   unfold bindL
   exact Sc (i := i) (List.nodup_cons.mp nd).2 (by simpa using h1) (by simpa using h2) hk
theorem Se {kindOf : Str → Option NameKind} {x : Str} {v : Value} : ∀ {P : List Str} {vs : List Value} {i : Nat} {m : Str → Option Value}, P.Nodup → P[i]? = some x → vs[i]? = some v → kindOf x ≠ some .local →
   bindC kindOf (P.zip vs) m x = some v
 | [], _, _, _, _, h, _, _ => by simp at h
 | _ :: _, [], _, _, _, _, h, _ => by simp at h
 | p :: P, w :: vs, 0, m, nd, h1, h2, hk => by
   simp at h1 h2; subst h1; subst h2
   show bindC kindOf ((p, w) :: P.zip vs) m p = _
   unfold bindC
   rw [Sd fun v hv => (List.nodup_cons.mp nd).1 (List.of_mem_zip hv).1, if_neg hk]
   simp
 | p :: P, w :: vs, i + 1, m, nd, h1, h2, hk => by
   show bindC kindOf ((p, w) :: P.zip vs) m x = _
   unfold bindC
   exact Se (i := i) (List.nodup_cons.mp nd).2 (by simpa using h1) (by simpa using h2) hk
def start (N : List Str) (vs : List V) : St := vs.map some ++ List.replicate (N.length - vs.length) none
def cxOf (CX : CXT) (P : Program) (w : World) (K : W.Frag) (mg : Str → Option Value) (base : Heap) (N : List Str) (qual : Str) (scope : Scope) (f : Addr) (cd : Value) (A : Around) (outer : List Env) (s : Shared) (H : Hp) (E : XK) : Cx where
 prog := P
 w := w
 K := K
 mg := mg
 base := base
 A := A.deeper (envOfC qual scope s.heap.objs.size f cd)
 N := N
 s₀ := s
 H₀ := H
 env := envOfC qual scope s.heap.objs.size f cd
 outer := outer
 stack := envOfC qual scope s.heap.objs.size f cd :: outer
 ex := []
 calm := true
 fn := fun _ => true
 pn := []
 xe := fun e s' => wpAny (model P w) (A.deeper (envOfC qual scope s.heap.objs.size f cd)) (leaving (envOfC qual scope s.heap.objs.size f cd) e) (fun _ s'' => CX outer H s E e s'') (fun e' s'' => CX outer H s E e' s'') s'
theorem VJ {sc : Scope} {n : Nat} {x : Str} (h : sc.names.lookup x = some .cell) : ∃ c, (cellsFrom n sc.names []).lookup x = some c := by
 have q := W.cellsFrom_some sc.names n [] (.inl h)
 exact Option.isSome_iff_exists.mp q
theorem inv_start {CX : CXT} {P : Program} {w : World} {K : W.Frag} {mg : Str → Option Value} {base : Heap} {N ps : List Str} {qual : Str} {scope : Scope} {f : Addr} {cd : Value} {A : Around} {outer : List Env} {s s1 : Shared} {H : Hp} {E : XK} {us : List Value} {vs : List V}
   (S : FnScope N ps scope) (hd : A.handled = none) (e0 : Env0 P w K mg base A outer s H) (hl : vs.length = ps.length) (r : Vals vs us)
   (x : InCallC s s.heap.objs.size (bindL (envOfC qual scope s.heap.objs.size f cd).kindOf (ps.zip us) fun _ => none) (cellsFrom (s.heap.objs.size + 1) scope.names []) (bindC (envOfC qual scope s.heap.objs.size f cd).kindOf (ps.zip us) fun _ => none) s1) :
   Inv (cxOf CX P w K mg base N qual scope f cd A outer s H E) [] (start N vs) H s1 := by
 have hpl : ps.length ≤ N.length := by have := congrArg List.length S.pre; rw [List.length_take] at this; omega
 obtain ⟨h1, tk, rfl, hk⟩ := x.done
 have noA : ∀ b : Addr, b ∉ (cxOf CX P w K mg base N qual scope f cd A outer s H E).ex := fun b z => absurd (show b ∈ ([] : List Addr) from z) (by simp)
 refine ⟨⟨e0.mod, S.kind, rfl, rfl, Nat.le_refl _, fun y z c h1 h2 => ?_, fun y hy => ?_, fun y c _ h => ?_, fun _ => hd, Around.frames_deeper e0.frames, .inr ⟨rfl, rfl⟩, fun b z => absurd z (noA b), e0.bs, e0.bsz, fun b _ _ => noA b, fun b z => absurd z (noA b), e0.funs, e0.frf⟩,
   rfl, e0.bare, Un.kept hk, ⟨_, x.toInCall.ns, fun i y v h1 h2 h3 => ?_⟩, fun y c h => ⟨_, x.cell y c h⟩, e0.hok.fresh (Nat.le_refl _), fun y c h => ?_, fun p hp => absurd (show p ∈ ([] : List (Addr × Obj)) from hp) (by simp), e0.hok.kept hk, ?_⟩
 · exact name_of_addr x.apart (PySem.mem_of_lookup h1) (PySem.mem_of_lookup h2)
 · have hy : scope.names.lookup y = some .cell ∨ scope.names.lookup y = some .free := hy
   rcases hy with hy | hy
   · exact VJ hy
   · exact absurd rfl (S.nofree _ (PySem.mem_of_lookup hy))
 · exact Nat.le_of_lt (x.above y c (PySem.mem_of_lookup h))
 · have hi : i < vs.length := by
     unfold start at h2
     by_cases hi : i < vs.length
     · exact hi
     · rw [List.getElem?_append_right (by simpa using hi)] at h2
       rw [List.getElem?_replicate] at h2
       split at h2 <;> cases h2
   have ha : vs[i]? = some v := by
     unfold start at h2
     rw [List.getElem?_append_left (by simpa using hi), List.getElem?_map] at h2
     cases e : vs[i]? with
     | none => rw [e] at h2; cases h2
     | some a => rw [e] at h2; cases h2; rfl
   obtain ⟨u, hu, rv⟩ := r.get ha
   have hp : ps[i]? = some y := by
     rw [← S.pre, List.getElem?_take_of_lt (by omega)]; exact h1
   have ndP : ps.Nodup := by rw [← S.pre]; exact S.nd.sublist (List.take_sublist _ _)
   refine ⟨u, rv, ?_⟩
   rcases S.par y (List.mem_of_getElem? hp) with k | k
   · exact .inl ⟨k, Sc ndP hp hu k⟩
   · obtain ⟨c, e⟩ := VJ (n := s.heap.objs.size + 1) k
     refine .inr ⟨.inl k, c, e, ?_⟩
     have q := x.cell y c e
     rw [Se ndP hp hu (by show scope.names.lookup y ≠ _; rw [k]; decide)] at q
     exact q
 · exact e0.hok.fresh (Nat.le_of_lt (x.above y c (PySem.mem_of_lookup h)))
 · unfold start
   show _ = N.length
   rw [List.length_append, List.length_map, List.length_replicate]
   omega
theorem fn_of {CX : CXT} {P : Program} {w : World} {K : W.Frag} {mg : Str → Option Value} {base : Heap} {k : Nat} {f : Addr} {name qual : Str} {params : Arguments} {body : List Stmt} {scope : Scope} {dV kV doc pm cdv ct oc : Value} {an od : Option Addr}
   {osl : Array (Option Value)} {N ps : List Str} {sp : Sp} (lk : K.lookup f = some ⟨oc, od, .func (W.fnOf name qual params body scope dV kV doc pm an cdv ct), osl⟩) (hcd : W.codeIn K cdv qual = true) (S : FnScope N ps scope)
   (len : ∀ vs H Q E, sp vs H Q E → vs.length = ps.length)
   (hbody : ∀ (A : Around) (outer : List Env) (s : Shared) (H : Hp) (vs : List V) (Q : VK) (E : XK), Room k (A.deeper (envOfC qual scope s.heap.objs.size f cdv)) → sp vs H Q E →
     ∃ t, PSs (cxOf CX P w K mg base N qual scope f cdv A outer s H E) body t ∧ t { nx := fun _ H' => Q .non H', rt := Q } (start N vs) H) :
   FnOk P w K mg base CX (k + 1) f (W.fnOf name qual params body scope dV kV doc pm an cdv ct) ps sp := by
 refine ⟨len, fun A outer s H args us vs Q E hr e0 hb r hsp => ?_⟩
 have hl := len _ _ _ _ hsp
 have KX : K.In s.heap := e0.mod.kin.keeps fun b o e => (e0.bs b o e).1
 have lim : s.heap.NoLimit := e0.mod.nolimit.keeps fun b o e => (e0.bs b o e).1
 have hkind : ∀ y ∈ ps.zip us, scope.names.lookup y.1 = some .local ∨ (scope.names.lookup y.1 = some .cell ∧ ((cellsFrom (s.heap.objs.size + 1) scope.names []).lookup y.1).isSome = true) := fun ⟨n, v⟩ hy => by
   rcases S.par n (List.of_mem_zip hy).1 with q | q
   · exact .inl q
   · exact .inr ⟨q, W.cellsFrom_some _ _ _ (.inl q)⟩
 refine codeAny_call_function hr.depth (KX _ _ lk) rfl S.co S.gen rfl (W.codeRec_of KX hcd) (hb _ _ _ _ ?_)
 refine wpAny_newFunctionEnv_cells S.kind hkind fun env he s1 x => ?_
 subst he
 refine ⟨lim.keeps x.toInCall.keep, codeAny_func ?_⟩
 obtain ⟨t, ht, hq⟩ := hbody A outer s H vs Q E (hr.deeper _) hsp
 have I : Inv (cxOf CX P w K mg base N qual scope f cdv A outer s H E) [] (start N vs) H s1 := inv_start S hr.hd e0 hl r x
 refine wpAny_mono (ht [] s1 (start N vs) H _ I hq) (fun fl s' hs => ?_) fun e s' hs => hs
 have fin : ∀ {σ' : St} {H' : Hp} {v : V} {u : Value}, Inv (cxOf CX P w K mg base N qual scope f cdv A outer s H E) [] σ' H' s' → RelV v u → Q v H' → CE outer P w H s Q u s' :=
   fun {σ' H' v u} J rv q => ⟨v, H', J.os, J.bare, J.base, J.hok, rv, q⟩
 cases fl with
 | ret u =>
   obtain ⟨v, σ', H', J, rv, q⟩ := hs
   exact fin J rv q
 | next =>
   obtain ⟨σ', H', J, q⟩ := hs
   exact fin (v := V.non) (u := Value.none) J rfl q
 | brk =>
   obtain ⟨_, _, _, q⟩ := hs
   exact False.elim q
 | cont =>
   obtain ⟨_, _, _, q⟩ := hs
   exact False.elim q
end L2
namespace L2
open PySem PySem.Spec PyProof.Rows
section
variable {X : Cx} {x : Str} {p pos : Pos} {e : Expr} {es : List Expr} {t : TA} {id T : String} {r : List V → Hp → VK → Prop}
def tCB (r : List V → Hp → VK → Prop) (t : TA) : TE := fun σ H Q => t σ H fun vs H1 => r vs H1 Q
theorem Yd (hc : XV X (.builtin id) r) (hg : Gl X x) (hm : X.mg x = none) (hv : bootBuiltins x = some (.builtin id)) (ha : PA X (e :: es) t) (hn : x ≠ "__name__" := by decide) (hdb : (x == ("__debug__" : Str)) = false := by decide)
   (he : starEach (e :: es) X.env = (false, eval e X.env) :: starEach es X.env := by rfl) (hpl : (backTo pos (starEach es X.env)).any (·.1) = false := by rfl) : PE X (.Call (.Name x p) (e :: es) [] pos) (tCB r t) := by
 intro pins s σ H Q I h
 refine wpAny_Call_Name_kw (VY I hg hm hv ?_ hn hdb)
 exact PyProof.Rows.callWith_builtin1 (thn (ha pos pins s σ H _ I h) fun us s1 ⟨vs, H1, I1, r1, q1⟩ => hc pins s1 σ H1 vs us Q I1 r1 q1) he hpl
theorem VS (hc : XV X (.type T) r) (hg : Gl X x) (hm : X.mg x = none) (hv : bootBuiltins x = some (.type T)) (ha : PA X (e :: es) t) (hn : x ≠ "__name__" := by decide) (hdb : (x == ("__debug__" : Str)) = false := by decide)
   (he : starEach (e :: es) X.env = (false, eval e X.env) :: starEach es X.env := by rfl) (hpl : (backTo pos (starEach es X.env)).any (·.1) = false := by rfl) : PE X (.Call (.Name x p) (e :: es) [] pos) (tCB r t) := by
 intro pins s σ H Q I h
 refine wpAny_Call_Name_kw (VY I hg hm hv ?_ hn hdb)
 exact PyProof.Rows.callWith_type1 (thn (ha pos pins s σ H _ I h) fun us s1 ⟨vs, H1, I1, r1, q1⟩ => hc pins s1 σ H1 vs us Q I1 r1 q1) he hpl
end
end L2
namespace L2
open PySem PySem.Spec PyProof.Rows
section
variable {κ : Type} [DecidableEq κ]
def valV (kvs : List (κ × V)) (k : κ) : Option V := (kvs.find? fun kv => decide (kv.1 = k)).map (·.2)
def putK (kvs : List (κ × V)) (k : κ) (v : V) : List (κ × V) :=
 if (kvs.any fun kv => decide (kv.1 = k)) = true then kvs.map (fun kv => if kv.1 = k then (kv.1, v) else kv) else kvs ++ [(k, v)]
def XB (kvs : List (κ × V)) (k : κ) : List (κ × V) := kvs.filter fun kv => decide (kv.1 ≠ k)
theorem Vq {p : κ × V} {r : List (κ × V)} {k : κ} (e : p.1 = k) : valV (p :: r) k = some p.2 := by simp [valV, List.find?_cons, e]
theorem Vr {p : κ × V} {r : List (κ × V)} {k : κ} (e : ¬ p.1 = k) : valV (p :: r) k = valV r k := by simp [valV, List.find?_cons, e]
theorem valV_any (k : κ) : ∀ kvs : List (κ × V), (kvs.any fun kv => decide (kv.1 = k)) = (valV kvs k).isSome
 | [] => rfl
 | p :: r => by
   rw [List.any_cons]
   by_cases e : p.1 = k
   · simp only [Vq e, decide_eq_true e, Bool.true_or, Option.isSome_some]
   · rw [Vr e, decide_eq_false e, Bool.false_or]; exact valV_any k r
theorem XJ (kvs : List (κ × V)) (k : κ) (v : V) : (putK kvs k v).length ≤ kvs.length + 1 := by
 unfold putK
 split
 · rw [List.length_map]; omega
 · rw [List.length_append, List.length_cons, List.length_nil]; omega
theorem RelO.isSome_eq {o : Option V} {u : Option Value} (r : RelO o u) : o.isSome = u.isSome := by
 cases o with
 | none => cases u with
   | none => rfl
   | some _ => exact (show False from r).elim
 | some _ => cases u with
   | none => exact (show False from r).elim
   | some _ => rfl
theorem KV.val {kvs : List (κ × V)} {vs : List (κ × Value)} (r : KV kvs vs) (k : κ) : RelO (valV kvs k) (valueAt vs k) := by
 unfold KV at r
 induction r with
 | nil => exact True.intro
 | @cons p q ps qs h t ih =>
   obtain ⟨h1, h2⟩ := h
   by_cases e : p.1 = k
   · have e' : q.1 = k := h1.symm.trans e
     have b : valueAt (q :: qs) k = some q.2 := by simp [valueAt, List.find?_cons, e']
     rw [Vq e, b]; exact h2
   · have e' : ¬ q.1 = k := fun z => e (h1.trans z)
     have b : valueAt (q :: qs) k = valueAt qs k := by simp [valueAt, List.find?_cons, e']
     rw [Vr e, b]; exact ih
theorem KV.any {kvs : List (κ × V)} {vs : List (κ × Value)} (r : KV kvs vs) (k : κ) : (kvs.any fun kv => decide (kv.1 = k)) = vs.any fun kv => decide (kv.1 = k) := by
 unfold KV at r
 induction r with
 | nil => rfl
 | cons h t ih => rw [List.any_cons, List.any_cons, ih, h.1]
theorem KV.repl {kvs : List (κ × V)} {vs : List (κ × Value)} (r : KV kvs vs) (k : κ) {y : V} {u : Value} (ry : RelV y u) :
   KV (kvs.map fun kv => if kv.1 = k then (kv.1, y) else kv) (vs.map fun kv => if kv.1 = k then (kv.1, u) else kv) := by
 unfold KV at r ⊢
 induction r with
 | nil => exact .nil
 | @cons p q ps qs h t ih =>
   rw [List.map_cons, List.map_cons]
   refine .cons ?_ ih
   obtain ⟨h1, h2⟩ := h
   by_cases e : p.1 = k
   · rw [if_pos e, if_pos (h1.symm.trans e)]; exact ⟨h1, ry⟩
   · rw [if_neg e, if_neg (fun z => e (h1.trans z))]; exact ⟨h1, h2⟩
theorem KV.put {kvs : List (κ × V)} {vs : List (κ × Value)} (r : KV kvs vs) (k : κ) {y : V} {u : Value} (ry : RelV y u) : KV (putK kvs k y) (stored vs k u) := by
 unfold putK stored
 rw [r.any k]
 by_cases e : (vs.any fun kv => decide (kv.1 = k)) = true
 · rw [if_pos e, if_pos e]; exact r.repl k ry
 · rw [if_neg e, if_neg e]; exact Paired.snoc r ⟨rfl, ry⟩
theorem KV.drop {kvs : List (κ × V)} {vs : List (κ × Value)} (r : KV kvs vs) (k : κ) : KV (XB kvs k) (without vs k) := by
 unfold KV at r ⊢
 unfold XB without
 induction r with
 | nil => exact .nil
 | @cons p q ps qs h t ih =>
   obtain ⟨h1, h2⟩ := h
   rw [List.filter_cons, List.filter_cons]
   by_cases e : p.1 = k
   · have a : ¬ decide (p.1 ≠ k) = true := by simp [e]
     have b : ¬ decide (q.1 ≠ k) = true := by simp [h1.symm.trans e]
     rw [if_neg a, if_neg b]; exact ih
   · have e' : ¬ q.1 = k := fun z => e (h1.trans z)
     have a : decide (p.1 ≠ k) = true := by simp [e]
     have b : decide (q.1 ≠ k) = true := by simp [e']
     rw [if_pos a, if_pos b]; exact .cons ⟨h1, h2⟩ ih
theorem KV.length {kvs : List (κ × V)} {vs : List (κ × Value)} (r : KV kvs vs) : kvs.length = vs.length := Paired.length r
theorem dropK_le (kvs : List (κ × V)) (k : κ) : (XB kvs k).length ≤ kvs.length := List.length_filter_le _ _
end
theorem TU {P : Program} {w : World} {k : Key} {u : Value} (r : RelV (kV k) u) : (ZL P w).is k u = true := by
 cases k with
 | inl i => obtain ⟨t, e⟩ := (show ∃ t, u = Value.int i t from r); subst e; exact mixKind_int P w i t
 | inr x => obtain ⟨t, e⟩ := (show ∃ t, u = Value.str x t from r); subst e; exact mixKind_str P w x t
theorem TV {P : Program} {w : World} : ∀ {ks : List Key} {us : List Value}, Vals (ks.map kV) us → ItemsAre (ZL P w) ks us
 | [], _, r => by rw [List.map_nil] at r; cases r; exact .nil
 | k :: ks, _, r => by
   rw [List.map_cons] at r
   cases r with
   | cons h t => exact .cons (TU h) (TV t)
abbrev KT (H : Hp) : List (List Key × V) → List (List Key × Addr × Value) → Prop := Paired fun p q => p.1 = q.1 ∧ H q.2.1 = some (.tup (p.1.map kV)) ∧ RelV p.2 q.2.2
theorem KT.val {H : Hp} {kvs : List (List Key × V)} {xs : List (List Key × Addr × Value)} (r : KT H kvs xs) (k : List Key) : RelO (valV kvs k) ((atKey xs k).map (·.2)) := by
 induction r with
 | nil => exact True.intro
 | @cons p q ps qs h t ih =>
   obtain ⟨h1, _, h2⟩ := h
   by_cases e : p.1 = k
   · have e' : q.1 = k := h1.symm.trans e
     have b : atKey (q :: qs) k = some q.2 := by simp [atKey, List.find?_cons, e']
     rw [Vq e, b]; exact h2
   · have e' : ¬ q.1 = k := fun z => e (h1.trans z)
     have b : atKey (q :: qs) k = atKey qs k := by simp [atKey, List.find?_cons, e']
     rw [Vr e, b]; exact ih
theorem KT.repl {H : Hp} {kvs : List (List Key × V)} {xs : List (List Key × Addr × Value)} (r : KT H kvs xs) (k : List Key) {y : V} {u : Value} (ry : RelV y u) :
   KT H (kvs.map fun kv => if kv.1 = k then (kv.1, y) else kv) (xs.map (putAt k u)) := by
 induction r with
 | nil => exact .nil
 | @cons p q ps qs h t ih =>
   rw [List.map_cons, List.map_cons]
   refine .cons ?_ ih
   obtain ⟨h1, h2, h3⟩ := h
   unfold putAt
   by_cases e : p.1 = k
   · rw [if_pos e, if_pos (h1.symm.trans e)]; exact ⟨h1, h2, ry⟩
   · rw [if_neg e, if_neg (fun z => e (h1.trans z))]; exact ⟨h1, h2, h3⟩
theorem KT.put {H : Hp} {kvs : List (List Key × V)} {xs : List (List Key × Addr × Value)} (r : KT H kvs xs) (k : List Key) {b : Addr} {y : V} {u : Value} (hb : H b = some (.tup (k.map kV))) (ry : RelV y u) :
   KT H (putK kvs k y) (storedH xs k b u) := by
 have e : (kvs.any fun kv => decide (kv.1 = k)) = (atKey xs k).isSome := by
   rw [valV_any, (r.val k).isSome_eq, Option.isSome_map]
 unfold putK storedH
 rw [e]
 by_cases q : (atKey xs k).isSome = true
 · rw [if_pos q, if_pos q]; exact r.repl k ry
 · rw [if_neg q, if_neg q]; exact Paired.snoc r ⟨rfl, hb, ry⟩
theorem KT.keeps {H H' : Hp} {kvs : List (List Key × V)} {xs : List (List Key × Addr × Value)} (r : KT H kvs xs) (ht : ∀ b ys, H b = some (.tup ys) → H' b = some (.tup ys)) : KT H' kvs xs :=
 Paired.mapP r fun _ _ z => ⟨z.1, ht _ _ z.2.1, z.2.2⟩
section
variable {P : Program} {w : World} {H : Hp} {h : Heap} {a : Addr}
theorem rd_of {u : HO} (ok : HOk P w H h) (e : Rd H a u) : ObjOk P w H h a u := e.ok ok
theorem dk_rd {kvs : List (Key × V)} (ok : HOk P w H h) (e : Rd H a (.dK kvs)) : kvs.length ≤ sizeLine ∧ (a == sysModules) = false ∧ ∃ vs, KV kvs vs ∧ h.DictOf (ZL P w) a vs :=
 show ObjOk P w H h a (.dK kvs) from rd_of ok e
theorem dk_of {kvs : List (Key × V)} (ok : HOk P w H h) (e : H a = some (.dK kvs)) : kvs.length ≤ sizeLine ∧ (a == sysModules) = false ∧ ∃ vs, KV kvs vs ∧ h.DictOf (ZL P w) a vs := dk_rd ok (.inl e)
theorem SD {ks : List Key} (ok : HOk P w H h) (e : H a = some (.tup (ks.map kV))) : (tupleKind (ZL P w)).is h ks a := by
 obtain ⟨_, its, r, o, h1, h2, n, h3⟩ := (show ObjOk P w H h a (.tup (ks.map kV)) from ok a _ e)
 exact ⟨o, its.toArray, n, h1, h2, h3, by simpa using TV r⟩
theorem dt_rd {kvs : List (List Key × V)} (ok : HOk P w H h) (e : Rd H a (.dT kvs)) : kvs.length ≤ sizeLine ∧ (a == sysModules) = false ∧
   ∃ xs, KT H kvs xs ∧ h.DictOfH (tupleKind (ZL P w)) a xs := by
 obtain ⟨z, y, xs, r, o, es, ep, h1, h2, h3, h4, h5⟩ := (show ObjOk P w H h a (.dT kvs) from rd_of ok e)
 refine ⟨z, y, xs, r, o, es, ep, h1, h2, h3, h4, fun x hx => ?_, h5⟩
 have all : ∀ {l : List (List Key × V)} {m : List (List Key × Addr × Value)}, KT H l m → ∀ x ∈ m, (tupleKind (ZL P w)).is h x.1 x.2.1 := by
   intro l m q
   induction q with
   | nil => intro x hx; exact nomatch hx
   | @cons p q ps qs hq t ih =>
     intro x hx
     rcases List.mem_cons.mp hx with e | hx
     · subst e
       exact SD ok (by rw [← hq.1]; exact hq.2.1)
     · exact ih x hx
 exact all r x hx
theorem dt_of {kvs : List (List Key × V)} (ok : HOk P w H h) (e : H a = some (.dT kvs)) : kvs.length ≤ sizeLine ∧ (a == sysModules) = false ∧
   ∃ xs, KT H kvs xs ∧ h.DictOfH (tupleKind (ZL P w)) a xs := dt_rd ok (.inl e)
end
def DGet (H : Hp) (a : Addr) (y : V) (r : Option V) : Prop :=
 (∃ kvs k, Rd H a (.dK kvs) ∧ y = kV k ∧ r = valV kvs k) ∨ ∃ kvs k b, Rd H a (.dT kvs) ∧ y = .ref b ∧ H b = some (.tup (k.map kV)) ∧ r = valV kvs k
def DPut (H : Hp) (a : Addr) (y v : V) (H' : Hp) : Prop :=
 (∃ kvs k, H a = some (.dK kvs) ∧ y = kV k ∧ kvs.length < sizeLine ∧ H' = upd H a (.dK (putK kvs k v))) ∨
 ∃ kvs k b, H a = some (.dT kvs) ∧ y = .ref b ∧ H b = some (.tup (k.map kV)) ∧ kvs.length < sizeLine ∧ H' = upd H a (.dT (putK kvs k v))
theorem DGet.k {H : Hp} {a : Addr} {kvs : List (Key × V)} {k : Key} (e : H a = some (.dK kvs)) : DGet H a (kV k) (valV kvs k) := .inl ⟨kvs, k, .inl e, rfl, rfl⟩
theorem DPut.k {H : Hp} {a : Addr} {kvs : List (Key × V)} {k : Key} {v : V} (e : H a = some (.dK kvs)) (hl : kvs.length < sizeLine) : DPut H a (kV k) v (upd H a (.dK (putK kvs k v))) := .inl ⟨kvs, k, e, rfl, hl, rfl⟩
section
variable {X : Cx} {pins : List (Addr × Obj)} {σ : St} {H : Hp} {s : Shared} {a : Addr} {y v : V} {u r : Value} {o : Option V} {A : Around} {E : Value → Shared → Prop}
theorem Inv.big (I : Inv X pins σ H s) : sysModules < s.heap.objs.size := by
 have h : mainGlobals < s.heap.objs.size := (I.mod.glob.keeps I.bk).lt
 exact Nat.lt_trans (by decide) h
theorem d_getItem {Q : Value → Shared → Prop} (hu : A.units + 1 < cLine) (I : Inv X pins σ H s) (g : DGet H a y (some v)) (ry : RelV y u) (h : ∀ w' s', Inv X pins σ H s' → RelV v w' → Q w' s') :
   wpAny (model X.prog X.w) A (getItem (.ref a) u) Q E s := by
 rcases g with ⟨kvs, k, e, ey, l⟩ | ⟨kvs, k, b, e, ey, eb, l⟩
 · subst ey
   obtain ⟨z, hd, vs, rel, dd⟩ := dk_rd I.hok e
   obtain ⟨w', hw, rw'⟩ := RelO.some_of (v := v) (o := valueAt vs k) (by rw [l]; exact rel.val k)
   exact wpAny_getItem_of (TU ry) dd.mapOf hw (h w' _ (I.tok _) rw')
 · subst ey
   cases (show u = Value.ref b from ry)
   obtain ⟨z, hd, xs, rel, dd⟩ := dt_rd I.hok e
   obtain ⟨w', hw, rw'⟩ := RelO.some_of (v := v) (o := (atKey xs k).map (·.2)) (by rw [l]; exact rel.val k)
   obtain ⟨p, hp, hp2⟩ := Option.map_eq_some_iff.mp hw
   refine wpAny_getItem_heap (tupleKind_room_in1 hu) (SD I.hok eb) dd hp ?_
   rw [hp2]
   exact h w' _ (I.tok _) rw'
theorem d_notIn {Q : Value → Shared → Prop} (hu : A.units + 1 < cLine) (I : Inv X pins σ H s) (g : DGet H a y o) (ry : RelV y u) (h : ∀ s', Inv X pins σ H s' → Q (.bool (!o.isSome)) s') :
   wpAny (model X.prog X.w) A (compareOp .NotIn u (.ref a)) Q E s := by
 rcases g with ⟨kvs, k, e, ey, l⟩ | ⟨kvs, k, b, e, ey, eb, l⟩
 · subst ey
   obtain ⟨z, hd, vs, rel, dd⟩ := dk_rd I.hok e
   refine wpAny_notIn_of (TU ry) hd dd.mapOf ?_
   rw [← (rel.val k).isSome_eq, ← l]
   exact h _ (I.tok _)
 · subst ey
   cases (show u = Value.ref b from ry)
   obtain ⟨z, hd, xs, rel, dd⟩ := dt_rd I.hok e
   refine wpAny_notIn_heap (tupleKind_room_in1 hu) (SD I.hok eb) hd dd ?_
   have q := (rel.val k).isSome_eq
   rw [Option.isSome_map] at q
   rw [← q, ← l]
   exact h _ (I.tok _)
theorem Uz {h' : Heap} {t' : Nat} {ob : HO} (I : Inv X pins σ H s) (mu : Mut (H a)) (hs : Heap.SameBut a s.heap h') (he : ∃ q, h'.get? a = some q) (new : ObjOk X.prog X.w (upd H a ob) h' a ob) :
   Inv X pins σ (upd H a ob) { s with heap := h', toks := t' } :=
 I.write (x := a) (e := a) mu (.inl rfl) (fun b q hb z => (hs.2 b hb).trans z) he new
theorem dk_new {P : Program} {w : World} {H' : Hp} {h' : Heap} {kvs : List (Key × V)} {vs : List (Key × Value)} (z : kvs.length ≤ sizeLine) (hd : (a == sysModules) = false) (rel : KV kvs vs) (dd : h'.DictOf (ZL P w) a vs) :
   ObjOk P w H' h' a (.dK kvs) := ⟨z, hd, vs, rel, dd⟩
theorem d_setItem {H' : Hp} {Q : Unit → Shared → Prop} (hu : A.units + 1 < cLine) (I : Inv X pins σ H s) (g : DPut H a y v H') (ry : RelV y u) (rv : RelV v r) (h : ∀ s', Inv X pins σ H' s' → Q () s') :
   wpAny (model X.prog X.w) A (setItem (.ref a) u r) Q E s := by
 rcases g with ⟨kvs, k, e, ey, l, eH⟩ | ⟨kvs, k, b, e, ey, eb, l, eH⟩
 · subst ey eH
   obtain ⟨z, hd, vs, rel, dd⟩ := dk_of I.hok e
   have hz : vs.length ≤ sizeLine := by rw [← rel.length]; exact z
   have hl : (putK kvs k v).length ≤ sizeLine := by have := XJ kvs k v; omega
   refine wpAny_setItem_pairs (hsz := hz) (TU ry) dd fun h' dd' hs => h _ ?_
   have he : ∃ q, h'.get? a = some q := let ⟨q, _, _, hq, _⟩ := dd'; ⟨q, hq⟩
   exact Uz I (by rw [e]; exact True.intro) hs he (dk_new hl hd (rel.put k rv) dd')
 · subst ey eH
   cases (show u = Value.ref b from ry)
   obtain ⟨z, hd, xs, rel, dd⟩ := dt_of I.hok e
   have hz : xs.length ≤ sizeLine := by rw [← Paired.length rel]; exact z
   have hl : (putK kvs k v).length ≤ sizeLine := by have := XJ kvs k v; omega
   refine wpAny_setItem_heap (hsz := hz) (tupleKind_room_in1 hu) (SD I.hok eb) dd fun h' dd' hs => h _ ?_
   obtain ⟨q, es, ep, hq, h2, h3, h4, _, h5⟩ := dd'
   refine Uz I (by rw [e]; exact True.intro) hs ⟨q, hq⟩ ⟨hl, hd, _, (rel.put k eb rv).keeps fun c ys ec => ?_, q, es, ep, hq, h2, h3, h4, h5⟩
   rw [Zc (ne_of ec e (fun z => nomatch z))]
   exact ec
end
section
variable {X : Cx} {pins : List (Addr × Obj)} {σ : St} {H : Hp} {s : Shared} {a : Addr} {kvs : List (Key × V)} {k : Key} {u : Value} {A : Around} {E : Value → Shared → Prop}
theorem d_pop {v : V} {more : List Value} {Q : Value → Shared → Prop} (I : Inv X pins σ H s) (e : H a = some (.dK kvs)) (ry : RelV (kV k) u) (l : valV kvs k = some v) (hm : more = [] ∨ ∃ x, more = [x])
   (h : ∀ w' s', Inv X pins σ (upd H a (.dK (XB kvs k))) s' → RelV v w' → Q w' s') : wpAny (model X.prog X.w) A (call (.builtin "dict.pop") (.ref a :: u :: more)) Q E s := by
 obtain ⟨z, hd, vs, rel, dd⟩ := dk_of I.hok e
 obtain ⟨w', hw, rw'⟩ := RelO.some_of (v := v) (o := valueAt vs k) (by rw [← l]; exact rel.val k)
 have hp : (keyPart u).isSome = true := by
   cases k with
   | inl i => obtain ⟨t, q⟩ := (show ∃ t, u = Value.int i t from ry); subst q; rfl
   | inr x => obtain ⟨t, q⟩ := (show ∃ t, u = Value.str x t from ry); subst q; rfl
 have ha : argsOk "dict.pop" ⟨.ref a :: u :: more, []⟩ := by
   rcases hm with q | ⟨x, q⟩
   · subst q; exact F.args_dict_pop_2 _ _
   · subst q; exact F.args_dict_pop_3 _ _ _
 refine call_meetsIn F.slot_dict_pop dd.typeIs F.entry_dict_pop ha (meets_dict_pop_there (ZL X.prog X.w) a (TU ry) more hm hp)
   ⟨vs, w', dd, by rw [← rel.length]; exact z, hw, fun h' dd' hs => h w' _ ?_ rw'⟩
 have he : ∃ q, h'.get? a = some q := let ⟨q, _, _, hq, _⟩ := dd'; ⟨q, hq⟩
 exact Uz I (by rw [e]; exact True.intro) hs he (dk_new (Nat.le_trans (dropK_le kvs k) z) hd (rel.drop k) dd')
end
def NoSl (i : Expr) : Prop := ∀ ov iv, subscripted i false ov iv = operate [ov, iv] (getItem ov iv)
theorem subD_of {prog : Program} {w : World} {A : Around} {E : Value → Shared → Prop} {s : Shared} {env : Env} {value slice : Expr} {pos : Pos} {T id : String} {Q : Value → Shared → Prop}
   (hl : typeLookup (.type T) "__getitem__" = pure (some (.builtin id))) (hs : NoSl slice)
   (h : wpAny (model prog w) A (eval value env) (fun o s₁ => wpAny (model prog w) A (eval slice env) (fun i s₂ => s₂.TypeIs o T ∧ wpAny (model prog w) A (getItem o i) Q E s₂) E s₁) E s) :
   wpAny (model prog w) A (eval (.Subscript value slice pos) env) Q E s := by
 refine Subscript_ (wpAny_mono h (fun o s₁ h₁ => wpAny_mono h₁ (fun i s₂ h₂ => ?_) fun _ _ x => x) fun _ _ x => x)
 obtain ⟨hT, h₂⟩ := h₂
 unfold subscriptTail
 refine wpAny_bind ?_
 rw [getitemInPython_of_ne hT.not_modules]
 refine wpAny_bind (wpAny_specialOf hT hl ?_)
 have fin : wpAny (model prog w) A (subscripted slice false o i) (fun r s₃ => wpAny (model prog w) A (letTemporaryGo value o r >>= fun _ => pure r) Q E s₃) E s₂ := by
   rw [hs o i]
   exact wpAny_operating (wpAny_mono h₂ (fun r s₃ h₃ => wpAny_bind (wpAny_letTemporaryGo (wpAny_pure h₃))) fun _ _ x => x)
 first
   | exact wpAny_pure (wpAny_bind fin)
   | exact wpAny_bind (wpAny_pure (wpAny_bind fin))
   | exact wpAny_bind fin
theorem dict_typeIs {X : Cx} {pins : List (Addr × Obj)} {σ : St} {H : Hp} {s : Shared} {a : Addr} {y : V} {o : Option V} (I : Inv X pins σ H s) (g : DGet H a y o) : s.TypeIs (.ref a) "dict" := by
 rcases g with ⟨kvs, k, e, _, _⟩ | ⟨kvs, k, b, e, _, _, _⟩
 · obtain ⟨_, _, vs, _, dd⟩ := dk_rd I.hok e
   exact dd.typeIs
 · obtain ⟨_, _, xs, _, dd⟩ := dt_rd I.hok e
   exact dd.typeIs
def tDGet (td ty : TE) : TE := fun σ H Q => td σ H fun x H1 => ty σ H1 fun y H2 => ∃ a v, x = .ref a ∧ DGet H2 a y (some v) ∧ Q v H2
def tDNotIn (ty td : TE) : TE := fun σ H Q => ty σ H fun y H1 => td σ H1 fun x H2 => ∃ a o, x = .ref a ∧ DGet H2 a y o ∧ Q (.bl (!o.isSome)) H2
def sDPut (td ty tv : TE) : TS := fun D σ H => tv σ H fun v H1 => td σ H1 fun x H2 => ty σ H2 fun y H3 => ∃ a H4, x = .ref a ∧ DPut H3 a y v H4 ∧ D.nx σ H4
section
variable {X : Cx} {o i e value : Expr} {pos pos' tpos : Pos} {td ty tv : TE}
theorem Yy (hu : X.A.units + 1 < cLine) (ho : PE X o td) (hi : PE X i ty) (hs : NoSl i) : PE X (.Subscript o i pos) (tDGet td ty) := by
 intro pins s σ H Q I h
 refine subD_of F.slot_dict_getitem.lookup hs (thn (ho pins s σ H _ I h) fun u s1 ⟨x, H1, I1, rx, q1⟩ => thn (hi pins s1 σ H1 _ I1 q1) fun iv s2 ⟨y, H2, I2, ry, a, v, ex, g, q2⟩ => ?_)
 subst ex
 obtain rfl : u = Value.ref a := rx
 exact ⟨dict_typeIs I2 g, d_getItem hu I2 g ry fun w' s3 I3 rw' => ⟨v, H2, I3, rw', q2⟩⟩
theorem pc_dnotin (hu : X.A.units + 1 < cLine) (hi : PE X i ty) (ho : PE X o td) : PC X .NotIn i o (tDNotIn ty td) := by
 intro pins s σ H Q I h
 refine thn (hi pins s σ H _ I h) fun iv s1 ⟨y, H1, I1, ry, q1⟩ => thn (ho pins s1 σ H1 _ I1 q1) fun u s2 ⟨x, H2, I2, rx, a, ov, ex, g, q2⟩ => ?_
 subst ex
 obtain rfl : u = Value.ref a := rx
 exact d_notIn hu I2 g ry fun s3 I3 => ⟨.bl (!ov.isSome), H2, I3, rfl, q2⟩
theorem Xu (hu : X.A.units + 1 < cLine) (ho : PE X o td) (hi : PE X i ty) (hv : PE X value tv) (hs : swapsWith value (some (.Subscript o i pos')) pos.line X.env = pure false) :
   PS X (.Assign [.Subscript o i pos'] value pos) (sDPut td ty tv) := by
 intro pins s σ H D I h
 refine wpAny_Assign_Subscript (thn (hv pins s σ H _ I h) fun r s1 ⟨v, H1, I1, rv, q1⟩ => thn (ho pins s1 σ H1 _ I1 q1) fun u s2 ⟨x, H2, I2, rx, q2⟩ => thn (hi pins s2 σ H2 _ I2 q2) fun iv s3 ⟨y, H3, I3, ry, a, H4, ex, g, q3⟩ => ?_) hs
 subst ex
 obtain rfl : u = Value.ref a := rx
 exact d_setItem hu I3 g ry rv fun s4 I4 => ⟨σ, H4, I4, q3⟩
end
theorem dk_empty {P : Program} {w : World} {H : Hp} (h : Heap) (hb : sysModules < h.objs.size) : ObjOk P w H (h.push { cls := .type "dict", data := .dict #[] }) h.objs.size (.dK []) :=
 ⟨Nat.zero_le _, beq_eq_false_iff_ne.mpr (Ne.symm (Nat.ne_of_lt hb)), [], .nil, Heap.DictOf.new h⟩
def tDNewK : TE := fun _ H Q => ∀ p, H p = none → Q (.ref p) (upd H p (.dK []))
section
variable {X : Cx} {pos : Pos}
theorem YU : PE X (.Dict [] [] pos) tDNewK := fun pins s σ H Q I h =>
 wpAny_Dict_empty ⟨.ref s.heap.objs.size, _, I.laid (a := s.heap.objs.size) (o := .dK []) (t' := s.toks) (fun _ _ q => Heap.get?_push_of_some _ q) (Nat.le_refl _) (dk_empty s.heap I.big), rfl, h _ (I.hok.fresh (Nat.le_refl _))⟩
end
def tPairs : List (TE × TE) → St → Hp → (List (V × V) → Hp → Prop) → Prop
 | [], _, H, Q => Q [] H
 | (tk, tv) :: r, σ, H, Q => tk σ H fun x H1 => tv σ H1 fun y H2 => tPairs r σ H2 fun ps H3 => Q ((x, y) :: ps) H3
abbrev VV : List (V × V) → List (Value × Value) → Prop := Paired fun p q => RelV p.1 q.1 ∧ RelV p.2 q.2
def PPs (X : Cx) (pos : Pos) (keys : List (Option Expr)) (values : List Expr) (trs : List (TE × TE)) : Prop :=
 ∀ (pins : List (Addr × Obj)) (s : Shared) (σ : St) (H : Hp) (Q : List (V × V) → Hp → Prop), Inv X pins σ H s → tPairs trs σ H Q →
   wpAny (model X.prog X.w) X.A (evalPairs (pairTrees keys values X.env pos)) (fun vs s' => ∃ ps H', Inv X pins σ H' s' ∧ VV ps vs ∧ Q ps H') X.xe s
theorem pps_nil {X : Cx} {pos : Pos} : PPs X pos [] [] [] := fun pins s σ H Q I h => pairTrees_nil_walk ⟨[], H, I, .nil, h⟩
theorem Xp {X : Cx} {pos : Pos} {k v : Expr} {ks : List (Option Expr)} {vs : List Expr} {tk tv : TE} {trs : List (TE × TE)} (hk : PE X k tk) (hv : PE X v tv) (hr : PPs X pos ks vs trs) :
   PPs X pos (some k :: ks) (v :: vs) ((tk, tv) :: trs) := fun pins s σ H Q I h =>
 pairTrees_cons_walk (thn (hk pins s σ H _ I h) fun u s1 ⟨x, H1, I1, rx, q1⟩ => thn (hv pins s1 σ H1 _ I1 q1) fun w2 s2 ⟨y, H2, I2, ry, q2⟩ =>
   thn (hr pins s2 σ H2 _ I2 q2) fun ws s3 ⟨ps, H3, I3, rel, q3⟩ => ⟨(x, y) :: ps, H3, I3, .cons ⟨rx, ry⟩ rel, q3⟩)
def VX (kvs more : List (Key × V)) : List (Key × V) := more.foldl (fun acc kv => putK acc kv.1 kv.2) kvs
theorem KV.merge : ∀ {more : List (Key × V)} {rs : List (Key × Value)} {kvs : List (Key × V)} {vs : List (Key × Value)}, KV more rs → KV kvs vs → KV (VX kvs more) (merged vs rs) := by
 intro more rs kvs vs r
 unfold KV at r
 induction r generalizing kvs vs with
 | nil => intro q; exact q
 | @cons p q ps qs h t ih =>
   intro r0
   have e : KV (putK kvs p.1 p.2) (stored vs q.1 q.2) := by
     have := r0.put p.1 h.2
     rw [← h.1]; exact this
   exact ih e
theorem Vi : ∀ (more kvs : List (Key × V)), (VX kvs more).length ≤ kvs.length + more.length
 | [], kvs => by show kvs.length ≤ kvs.length + 0; omega
 | p :: r, kvs => by
   have h1 := Vi r (putK kvs p.1 p.2)
   have h2 := XJ kvs p.1 p.2
   show (VX (putK kvs p.1 p.2) r).length ≤ _
   rw [List.length_cons]; omega
theorem Tl {P : Program} {w : World} : ∀ {kvs : List (Key × V)} {ws : List (Value × Value)}, VV (kvs.map fun kv => (kV kv.1, kv.2)) ws → ∃ rs, Carries (ZL P w) ws rs ∧ KV kvs rs
 | [], _, r => by rw [List.map_nil] at r; cases r; exact ⟨[], True.intro, .nil⟩
 | p :: kvs, _, r => by
   rw [List.map_cons] at r
   cases r with
   | @cons a b as bs h t =>
     obtain ⟨rs, c, q⟩ := Tl (P := P) (w := w) t
     obtain ⟨b1, b2⟩ := b
     exact ⟨(p.1, b2) :: rs, ⟨TU h.1, rfl, c⟩, .cons ⟨rfl, h.2⟩ q⟩
def tDisp (trs : List (TE × TE)) : TE := fun σ H Q => ∀ p, H p = none → tPairs trs σ (upd H p (.dK [])) fun ps H2 => H2 p = some (.dK []) ∧ ∃ kvs : List (Key × V), ps = kvs.map (fun kv => (kV kv.1, kv.2)) ∧ kvs.length ≤ 15 ∧ Q (.ref p) (upd H2 p (.dK (VX [] kvs)))
theorem pe_disp {X : Cx} {pos : Pos} {keys : List (Option Expr)} {values : List Expr} {trs : List (TE × TE)} (h : PPs X pos keys values trs) (hall : keys.all (·.isSome) = true) (hl : keys.length = values.length) (h0 : keys ≠ [])
   (h15 : keys.length ≤ 15) : PE X (.Dict keys values pos) (tDisp trs) := by
 intro pins s σ H Q I q
 have hn := I.hok.fresh (Nat.le_refl s.heap.objs.size)
 have I1 := I.laid (a := s.heap.objs.size) (o := .dK []) (h' := s.heap.push { cls := .type "dict", data := .dict #[] }) (t' := s.toks) (fun _ _ q => Heap.get?_push_of_some _ q) (Nat.le_refl _) (dk_empty s.heap I.big)
 refine wpAny_Dict_walk (knd := ZL X.prog X.w) hall hl h0 h15 (thn (h pins _ σ _ _ I1 (q _ hn)) fun ws s2 ⟨ps, H2, I2, rel, e, kvs, ep, lk, q2⟩ => ?_)
 subst ep
 obtain ⟨rs, c, rk⟩ := Tl (P := X.prog) (w := X.w) rel
 obtain ⟨z, hd, vs0, r0, dd⟩ := dk_of I2.hok e
 cases r0
 refine ⟨rs, c, dd, fun h' dd' hs => ⟨.ref s.heap.objs.size, _, ?_, rfl, q2⟩⟩
 have hz : (VX [] kvs).length ≤ sizeLine := by
   have h1 := Vi kvs []
   rw [List.length_nil] at h1
   rw [sizeLine_eq]; omega
 have he : ∃ q, h'.get? s.heap.objs.size = some q := let ⟨q, _, _, hq, _⟩ := dd'; ⟨q, hq⟩
 exact Uz I2 (by rw [e]; exact True.intro) hs he (dk_new hz hd (rk.merge .nil) dd')
structure M1 (X : Cx) (o : Expr) (m : Str) (apos : Pos) (e : Expr) (cpos : Pos) : Prop where
 base : attributeBase o m X.env (eval o X.env) = eval o X.env
 few : ((backTo cpos (starEach [e] X.env)).all (fun x => !x.1) && (backToKw cpos (keywordEach [] X.env)).all (fun x => x.1.isSome)
   && decide (([e] : List Expr).length + ([] : List Keyword).length + (if ([] : List Keyword).isEmpty then 0 else 1) < 30)) = true
 line : (apos.endLine == cpos.line) = true
 trees : backTo cpos (starEach [e] X.env) = [(false, eval e X.env)]
def IsD (H : Hp) (a : Addr) : Prop := (∃ kvs, Rd H a (.dK kvs)) ∨ ∃ kvs, Rd H a (.dT kvs)
theorem isD_at {X : Cx} {pins : List (Addr × Obj)} {σ : St} {H : Hp} {s : Shared} {a : Addr} (I : Inv X pins σ H s) (d : IsD H a) :
   s.TypeIs (.ref a) "dict" ∧ (∀ b, Value.ref a = .ref b → ∃ ob, s.heap.get? b = some ob ∧ ob.dict = none) ∧ (a == sysModules) = false := by
 rcases d with ⟨kvs, e⟩ | ⟨kvs, e⟩
 · obtain ⟨_, hd, vs, _, dd⟩ := dk_rd I.hok e
   refine ⟨dd.typeIs, fun b q => ?_, hd⟩
   cases q
   obtain ⟨ob, _, _, h1, h2, _⟩ := dd
   exact ⟨ob, h1, h2.2.1⟩
 · obtain ⟨_, hd, xs, _, dd⟩ := dt_rd I.hok e
   refine ⟨dd.typeIs, fun b q => ?_, hd⟩
   cases q
   obtain ⟨ob, _, _, h1, h2, _⟩ := dd
   exact ⟨ob, h1, h2.2.1⟩
section
variable {X : Cx} {pins : List (Addr × Obj)} {σ : St} {H : Hp} {s : Shared} {a : Addr} {y d : V} {u r : Value} {o : Option V} {A : Around} {E : Value → Shared → Prop}
end
def tDPop1 (td ty : TE) : TE := fun σ H Q => td σ H fun x H1 => ∃ a, x = .ref a ∧ IsD H1 a ∧ ty σ H1 fun y H2 => ∃ kvs k v, H2 a = some (.dK kvs) ∧ y = kV k ∧ valV kvs k = some v ∧ Q v (upd H2 a (.dK (XB kvs k)))
section
variable {X : Cx} {o e f : Expr} {apos cpos : Pos} {td ty tx : TE}
theorem Vz (ho : PE X o td) (he : PE X e ty) (m : M1 X o "pop" apos e cpos) : PE X (.Call (.Attribute o "pop" apos) [e] [] cpos) (tDPop1 td ty) := by
 intro pins s σ H Q I h
 refine wpAny_Call_method m.base m.few m.line F.plainAttrs_dict F.slot_dict_pop F.type_dict_pop (thn (ho pins s σ H _ I h) fun u s1 ⟨x, H1, I1, rx, a, ex, d, q1⟩ => ?_)
 subst ex
 obtain rfl : u = Value.ref a := rx
 obtain ⟨t1, t2, _⟩ := isD_at I1 d
 refine ⟨t1, t2, ?_⟩
 rw [m.trees]
 refine Calls.callWith_builtin rfl (Calls.evalArgs_plain (Calls.spliced_cons (thn (he pins s1 σ H1 _ I1 q1) fun iv s2 ⟨y, H2, I2, ry, kvs, k, v, ea, ey, l, q2⟩ => Calls.spliced_nil ?_)))
 subst ey
 exact d_pop I2 ea ry l (.inl rfl) fun w' s3 I3 rw' => ⟨v, _, I3, rw', q2⟩
end
section
variable {X : Cx} {pins : List (Addr × Obj)} {σ : St} {H : Hp} {s : Shared} {a : Addr} {kvs : List (Key × V)} {A : Around} {E : Value → Shared → Prop}
end
section
variable {X : Cx} {pins : List (Addr × Obj)} {σ : St} {H : Hp} {s : Shared} {a : Addr} {y : V} {u : Value} {A : Around} {E : Value → Shared → Prop}
end
end L2
namespace HT
open PySem PyProof.Rows
section
open PySem.SeqAt
open PySem.AutoSeq1 (wpAny_loadPart')
open PySem.MeetsSeq PySem.MeetsSeq2 PySem.MeetsSeq3
end
section
variable {prog : Program} {w : World} {A : Around} {E : Value → Shared → Prop} {s : Shared}
end
end HT
namespace L2
open PySem PySem.Spec PyProof.Rows
theorem intsAre_of {ns : List Int} : ∀ {us : List Value}, Vals (ns.map V.int) us → IntsAre us ns := by
 induction ns with
 | nil => intro us r; rw [List.map_nil] at r; cases r; exact .nil
 | cons n ns ih =>
   intro us r
   rw [List.map_cons] at r
   cases r with
   | cons r1 r2 =>
     obtain ⟨t, e⟩ := r1
     subst e
     exact .cons n t (ih r2)
section
variable {X : Cx} {e : Expr} {te : TE} {lo hi : Option Expr} {tl th : TO} {pos p2 : Pos}
end
end L2
namespace L2
open PySem PySem.Spec PyProof.Rows
def ixN (n : Nat) (i : Int) : Option Nat := if 0 ≤ i then (if i < n then some i.toNat else none) else if -(n : Int) ≤ i then some (i + n).toNat else none
def atI {α : Type} (xs : List α) (i : Int) : Option α := (ixN xs.length i).bind fun j => xs[j]?
theorem ixN_seq {n : Nat} {i : Int} {j : Nat} (h : ixN n i = some j) : seqIndex? i n = some j ∧ j < n ∧ -(n : Int) ≤ i ∧ i < n := by
 unfold ixN at h
 by_cases h0 : 0 ≤ i
 · rw [if_pos h0] at h
   by_cases h1 : i < n
   · rw [if_pos h1] at h
     have e : i.toNat = j := Option.some.inj h
     exact ⟨by rw [seqIndex_of h0 h1, e], by omega, by omega, h1⟩
   · rw [if_neg h1] at h; cases h
 · rw [if_neg h0] at h
   by_cases h1 : -(n : Int) ≤ i
   · rw [if_pos h1] at h
     have e : (i + n).toNat = j := Option.some.inj h
     exact ⟨by rw [seqIndex_neg (by omega) h1, e], by omega, h1, by omega⟩
   · rw [if_neg h1] at h; cases h
theorem atI_get {α : Type} {xs : List α} {i : Int} {v : α} (h : atI xs i = some v) : ∃ j, seqIndex? i xs.length = some j ∧ xs[j]? = some v ∧ j < xs.length ∧ -(xs.length : Int) ≤ i ∧ i < xs.length := by
 unfold atI at h
 cases e : ixN xs.length i with
 | none => rw [e] at h; cases h
 | some j =>
   rw [e] at h
   obtain ⟨h1, h2, h3, h4⟩ := ixN_seq e
   exact ⟨j, h1, h, h2, h3, h4⟩
theorem atI_nat {α : Type} {xs : List α} {j : Nat} {v : α} (h : xs[j]? = some v) : atI xs (j : Int) = some v := by
 have hj : j < xs.length := (List.getElem?_eq_some_iff.mp h).1
 have e : ixN xs.length (j : Int) = some j := by
   unfold ixN
   rw [if_pos (by omega), if_pos (by omega)]; simp
 unfold atI; rw [e]; exact h
def PlainIx (b : Expr) : Prop := ∀ o i, subscripted b false o i = operate [o, i] (getItem o i)
def IxR (X : Cx) (r : R2) : Prop :=
 ∀ (value slice : Expr) (pins : List (Addr × Obj)) (s : Shared) (σ : St) (H : Hp) (x y : V) (v u : Value) (Q : VK), Inv X pins σ H s → RelV x v → RelV y u → r x y H Q →
   subscripted slice false v u = operate [v, u] (getItem v u) → wpAny (model X.prog X.w) X.A (subscriptTail value slice v u) (EP X pins σ Q) X.xe s
def MtR (X : Cx) (id : String) (r : V → List V → Hp → VK → Prop) : Prop :=
 ∀ (pins : List (Addr × Obj)) (s : Shared) (σ : St) (H : Hp) (x : V) (xs : List V) (v : Value) (us : List Value) (Q : VK), Inv X pins σ H s → RelV x v → Vals xs us → r x xs H Q →
   wpAny (model X.prog X.w) X.A (call (.builtin id) (v :: us)) (EP X pins σ Q) X.xe s
section
variable {X : Cx} {a b : Expr} {ta tb : TE} {pos : Pos}
theorem YT {r : R2} (hr : IxR X r) (ha : PE X a ta) (hb : PE X b tb) (hs : PlainIx b) : PE X (.Subscript a b pos) (tOp r ta tb) := by
 intro pins s σ H Q I h
 exact Subscript_ (binT ha hb I h fun v u s2 x y H2 I2 rx ry q => hr a b pins s2 σ H2 x y v u Q I2 rx ry q (hs _ _))
def rIxL (K : W.Frag) : R2 := fun x y H Q => ∃ p xs i v, x = .ref p ∧ y = .int i ∧ SqL K H p xs ∧ atI xs i = some v ∧ Q v H
def rIxT (K : W.Frag) : R2 := fun x y H Q => ∃ p xs i v, x = .ref p ∧ y = .int i ∧ SqT K H p xs ∧ atI xs i = some v ∧ Q v H
theorem Yw : IxR X (rIxL X.K) := by
 intro value slice pins s σ H x y v u Q I rx ry h hs
 obtain ⟨p, xs, i, z, rfl, rfl, hq, he, q⟩ := h
 cases rx
 obtain ⟨t, rfl⟩ := ry
 obtain ⟨its, r, pl, hz⟩ := I.list hq
 obtain ⟨j, h1, h2, h3, h4, h5⟩ := atI_get he
 obtain ⟨w, ew, rw'⟩ := r.get h2
 have hl := r.length
 have hn := SB
 have fin : EP X pins σ Q w s := ⟨z, H, I, rw', q⟩
 by_cases h0 : 0 ≤ i
 · have hj : i.toNat = j := by
     rw [seqIndex_of h0 h5] at h1
     exact Option.some.inj h1
   exact item_listR pl.isList h0 (by omega) (by rw [hj]; simpa using ew) fin hs
 · have hj : (i + (its.toArray.size : Int)).toNat = j := by
     rw [seqIndex_neg (by omega) h4] at h1
     rw [List.size_toArray, ← hl]
     exact Option.some.inj h1
   exact subscriptTail_builtinR (x := w) pl.isList.typeIs slot_list_getitem.lookup
     (wpAny_getItem_list_neg (Q := fun r s' => r = w ∧ EP X pins σ Q r s') pl.isList (by omega) (by rw [List.size_toArray] <;> omega) (by omega) (by rw [hj]; simpa using ew) ⟨rfl, fin⟩) hs
theorem SE : IxR X (rIxT X.K) := by
 intro value slice pins s σ H x y v u Q I rx ry h hs
 obtain ⟨p, xs, i, z, rfl, rfl, hq, he, q⟩ := h
 cases rx
 obtain ⟨t, rfl⟩ := ry
 obtain ⟨its, r, pl, hz⟩ := I.tuple hq
 obtain ⟨j, h1, h2, h3, h4, h5⟩ := atI_get he
 obtain ⟨w, ew, rw'⟩ := r.get h2
 have hl := r.length
 have hn := SB
 have fin : EP X pins σ Q w s := ⟨z, H, I, rw', q⟩
 exact subscriptTail_builtinR (x := w) pl.typeIs slot_tuple_getitem.lookup
   (getItem_tuple (j := j) (Q := fun r s' => r = w ∧ EP X pins σ Q r s') pl (by omega) (by omega) (by rw [List.size_toArray, ← hl]; exact h1) (by simpa using ew) ⟨rfl, fin⟩) hs
theorem Yg : XV X (.builtin "len") (fun xs H Q => ∃ p ys, xs = [.ref p] ∧ (SqL X.K H p ys ∨ SqT X.K H p ys) ∧ Q (.int ys.length) H) := by
 intro pins s σ H xs us Q I r h
 obtain ⟨p, ys, rfl, hq, q⟩ := h
 obtain ⟨u, rfl, rx⟩ := Ud r
 cases rx
 have hn := SB
 rcases hq with hq | hq
 · obtain ⟨its, r', pl, hz⟩ := I.list hq
   have hlen := r'.length
   exact Calls.call_len_list pl.isList (by simp only [List.size_toArray] <;> omega) ⟨.int ys.length, H, I.tok _, ⟨s.toks + 1, by rw [List.size_toArray, hlen]⟩, q⟩
 · obtain ⟨its, r', pl, hz⟩ := I.tuple hq
   have hlen := r'.length
   exact len_tuple pl (by simp only [List.size_toArray] <;> omega) ⟨.int ys.length, H, I.tok _, ⟨s.toks + 1, by rw [List.size_toArray, hlen]⟩, q⟩
theorem SH : XV X (.type "list") (fun xs H Q => ∃ p ys, xs = [.ref p] ∧ (SqL X.K H p ys ∨ SqT X.K H p ys) ∧ ∀ l, H l = none → Q (.ref l) (upd H l (.lst ys))) := by
 intro pins s σ H xs us Q I r h
 obtain ⟨p, ys, rfl, hq, q⟩ := h
 obtain ⟨u, rfl, rx⟩ := Ud r
 cases rx
 have fin : ∀ (its : List Value), Vals ys its → ys.length ≤ sizeLine → ∀ (h' : Heap) (c' : Nat), (∀ b o', s.heap.get? b = some o' → h'.get? b = some o') →
     h'.get? s.heap.objs.size = some { cls := .type "list", dict := none, data := .seq its.toArray c', slots := #[] } → EP X pins σ Q (.ref s.heap.objs.size) { s with heap := h' } := fun its r' hz h' c' kp e =>
   ⟨.ref s.heap.objs.size, _, I.laid (t' := s.toks) kp (Nat.le_refl _) (show ObjOk X.prog X.w _ h' _ (.lst ys) from ⟨hz, its, c', r', e⟩), rfl, q _ (I.hok.fresh (Nat.le_refl _))⟩
 rcases hq with hq | hq
 · obtain ⟨its, r', pl, hz⟩ := I.list hq
   have hlen := r'.length
   obtain ⟨o, ho, hc, n, hd⟩ := pl.isList
   exact call_list_seq p (.inl rfl) ho hc hd (fun h' c' kp e => fin its r' hz h' c' kp e) (by simp only [List.size_toArray] <;> omega)
 · obtain ⟨its, r', pl, hz⟩ := I.tuple hq
   have hlen := r'.length
   obtain ⟨o, ho, hc, n, hd⟩ := pl
   exact call_list_seq p (.inr rfl) ho hc hd (fun h' c' kp e => fin its r' hz h' c' kp e) (by simp only [List.size_toArray] <;> omega)
theorem TB : XV X (.type "tuple") (fun xs H Q => ∃ p ys, xs = [.ref p] ∧ ((SqL X.K H p ys ∧ ∀ l, H l = none → Q (.ref l) (upd H l (.tup ys))) ∨ (SqT X.K H p ys ∧ Q (.ref p) H))) := by
 intro pins s σ H xs us Q I r h
 obtain ⟨p, ys, rfl, h⟩ := h
 obtain ⟨u, rfl, rx⟩ := Ud r
 cases rx
 rcases h with ⟨hq, q⟩ | ⟨hq, q⟩
 · obtain ⟨its, r', pl, hz⟩ := I.list hq
   have hlen := r'.length
   refine call_tuple_list pl.isList (fun h' kp => ?_) (by simp only [List.size_toArray] <;> omega)
   have I1 : Inv X pins σ H { s with heap := h' } := I.kept (t' := s.toks) kp
   have I2 : Inv X pins σ (upd H h'.objs.size (.tup ys)) { s with heap := h'.push { cls := .type "tuple", data := .seq its.toArray } } :=
     I1.laid (t' := s.toks) (fun b o e => Heap.get?_push_of_some _ e) (Nat.le_refl _) (show ObjOk X.prog X.w _ _ _ (.tup ys) from ⟨hz, its, r', IsTup.new _ _⟩)
   exact ⟨.ref h'.objs.size, _, I2, rfl, q _ (I1.hok.fresh (Nat.le_refl _))⟩
 · obtain ⟨its, r', pl, hz⟩ := I.tuple hq
   exact call_tuple_same pl ⟨.ref p, H, I, rfl, q⟩
def tyV (K : W.Frag) (T : String) (x : V) (H : Hp) : Prop := match x with
 | .str _ => T = "str"
 | .int _ => T = "int"
 | .ref p => (T = "list" ∧ ∃ xs, SqL K H p xs) ∨ (T = "tuple" ∧ ∃ o, K.lookup p = some o ∧ o.cls = .type "tuple" ∧ o.dict = none) ∨
     (T = "dict" ∧ ((∃ kvs, H p = some (.dK kvs)) ∨ ∃ kvs, H p = some (.dT kvs))) ∨ (T = "set" ∧ ∃ S n, H p = some (.set S n))
 | _ => False
theorem tyV_is {pins : List (Addr × Obj)} {σ : St} {H : Hp} {s : Shared} {T : String} {x : V} {v : Value} (I : Inv X pins σ H s) (r : RelV x v) (ty : tyV X.K T x H) :
   s.TypeIs v T ∧ ∀ a, v = .ref a → ∃ ob, s.heap.get? a = some ob ∧ ob.dict = none := by
 cases x with
 | str z =>
   obtain ⟨t, rfl⟩ := r
   cases (show T = "str" from ty)
   exact ⟨typeIs_str s z t, fun _ e => nomatch e⟩
 | int i =>
   obtain ⟨t, rfl⟩ := r
   cases (show T = "int" from ty)
   exact ⟨typeIs_int s i t, fun _ e => nomatch e⟩
 | ref p =>
   cases r
   rcases ty with ⟨rfl, xs, hq⟩ | ⟨rfl, o, hk, hc, hd⟩ | ⟨rfl, hk⟩ | ⟨rfl, S, n, hk⟩
   · obtain ⟨its, _, pl, _⟩ := I.list hq
     refine ⟨pl.isList.typeIs, fun a e => ?_⟩
     cases e
     obtain ⟨o, n, e, c, hd, _⟩ := pl
     exact ⟨o, e, hd⟩
   · refine ⟨⟨o, I.kIn p o hk, hc⟩, fun a e => ?_⟩
     cases e
     exact ⟨o, I.kIn _ o hk, hd⟩
   · have z : ∃ o, s.heap.get? p = some o ∧ o.ExactDict := by
       rcases hk with ⟨kvs, hk⟩ | ⟨kvs, hk⟩
       · obtain ⟨_, _, _, _, o, _, _, e, ex, _⟩ := I.hok p _ hk
         exact ⟨o, e, ex⟩
       · obtain ⟨_, _, _, _, o, _, _, e, ex, _⟩ := I.hok p _ hk
         exact ⟨o, e, ex⟩
     obtain ⟨o, e, ex⟩ := z
     refine ⟨⟨o, e, ex.1⟩, fun a e2 => ?_⟩
     cases e2
     exact ⟨o, e, ex.2.1⟩
   · obtain ⟨o, _, _, _, e, ex, _⟩ := I.hok p _ hk
     refine ⟨⟨o, e, ex.1⟩, fun a e2 => ?_⟩
     cases e2
     exact ⟨o, e, ex.2.1⟩
 | _ => exact False.elim ty
def tBM (K : W.Frag) (T : String) (r : V → List V → Hp → VK → Prop) (to : TE) (t : TA) : TE := fun σ H Q => to σ H fun x H1 => tyV K T x H1 ∧ t σ H1 fun xs H2 => r x xs H2 Q
variable {o e : Expr} {es : List Expr} {to : TE} {t : TA} {name : Str} {apos cpos : Pos} {T id : String} {r : V → List V → Hp → VK → Prop}
theorem UU (pa : PlainAttrs T) (slot : Slot T name id) (hty : typeOf (.builtin id) = pure (.type "method_descriptor")) (hm : MtR X id r) (ho : PE X o to) (ha : PA X (e :: es) t)
   (hbase : attributeBase o name X.env (eval o X.env) = eval o X.env := by rfl)
   (hfew : ((backTo cpos (starEach (e :: es) X.env)).all (fun x => !x.1) && (backToKw cpos (keywordEach [] X.env)).all (fun x => x.1.isSome)
     && decide ((e :: es).length + ([] : List Keyword).length + (if ([] : List Keyword).isEmpty then 0 else 1) < 30)) = true := by rfl)
   (hline : (apos.endLine == cpos.line) = true := by rfl) (hs : starEach (e :: es) X.env = (false, eval e X.env) :: starEach es X.env := by rfl) (hplain : (backTo cpos (starEach es X.env)).any (·.1) = false := by rfl) :
   PE X (.Call (.Attribute o name apos) (e :: es) [] cpos) (tBM X.K T r to t) := by
 intro pins s σ H Q I h
 refine wpAny_Call_method_late hbase hfew hline rfl (thn (ho pins s σ H _ I h) fun v s1 ⟨x, H1, I1, r1, ty, q1⟩ => ?_)
 obtain ⟨h1, h2⟩ := tyV_is I1 r1 ty
 refine ⟨T, id, pa, slot, hty, h1, h2, ?_⟩
 have hA := ha cpos pins s1 σ H1 _ I1 q1
 rw [hs] at hA ⊢
 refine Calls.callWith_builtin (by show (false || (backTo cpos (starEach es X.env)).any (·.1)) = false; rw [hplain] <;> rfl) (Calls.evalArgs_plain ?_)
 exact thn hA fun us s2 ⟨vs, H2, I2, r2, q2⟩ => hm pins s2 σ H2 x vs v us Q I2 r1 r2 q2
end
end L2
namespace L2
open PySem PySem.Spec PyProof.Rows
def MtM (X : Cx) (id : String) (r : V → List V → Hp → VK → Prop) : Prop :=
 ∀ (pins : List (Addr × Obj)) (s : Shared) (σ : St) (H : Hp) (x : V) (xs : List V) (v : Value) (us : List Value) (Q : VK), Inv X pins σ H s → RelV x v → Vals xs us → r x xs H Q →
   wpAny (model X.prog X.w) X.A (call (.builtin id) (v :: us)) (EP X pins σ Q) X.xe s
theorem Vals.one : ∀ {x : V} {us : List Value}, Vals [x] us → ∃ u, us = [u] ∧ RelV x u
 | _, _, .cons r .nil => ⟨_, rfl, r⟩
theorem Vals.two : ∀ {x y : V} {us : List Value}, Vals [x, y] us → ∃ u v, us = [u, v] ∧ RelV x u ∧ RelV y v
 | _, _, _, .cons r (.cons q .nil) => ⟨_, _, rfl, r, q⟩
theorem Vals.eraseIdx : ∀ {xs : List V} {us : List Value} (i : Nat), Vals xs us → Vals (xs.eraseIdx i) (us.eraseIdx i)
 | _, _, _, .nil => .nil
 | _, _, 0, .cons _ t => t
 | _, _, i + 1, .cons r t => .cons r (Vals.eraseIdx i t)
theorem Vals.rep {xs : List V} {us : List Value} (h : Vals xs us) : ∀ k : Nat, Vals (List.replicate k xs).flatten (List.replicate k us).flatten
 | 0 => .nil
 | k + 1 => by
   rw [List.replicate_succ, List.replicate_succ, List.flatten_cons, List.flatten_cons]
   exact Vals.append h (Vals.rep h k)
theorem TQ {α : Type} : ∀ (l : List α) (i : Nat), (l.eraseIdx i).length ≤ l.length
 | [], _ => Nat.le_refl _
 | _ :: _, 0 => Nat.le_succ _
 | _ :: r, i + 1 => Nat.succ_le_succ (TQ r i)
theorem TW (its : List Value) : ∀ (k : Nat) (acc : List Value),
   List.foldl (fun x1 x2 => x1 ++ x2) acc.toArray (List.replicate k its.toArray) = (acc ++ (List.replicate k its).flatten).toArray
 | 0, acc => by simp
 | k + 1, acc => by
   have e : acc.toArray ++ its.toArray = (acc ++ its).toArray := by simp
   have e2 : (acc ++ its) ++ (List.replicate k its).flatten = acc ++ (List.replicate (k + 1) its).flatten := by
     rw [List.replicate_succ, List.flatten_cons, List.append_assoc]
   rw [← e2, ← TW its k (acc ++ its), ← e, List.replicate_succ, List.foldl_cons]
section
variable {X : Cx} {pins : List (Addr × Obj)} {σ : St} {H : Hp} {s : Shared} {l b : Addr} {xs ys zs : List V}
theorem Inv.lset {its its' : List Value} {n : Nat} {f : Array Value → Array Value} {t' : Nat} (I : Inv X pins σ H s) (hH : H l = some (.lst xs))
   (e : s.heap.get? l = some { cls := .type "list", data := .seq its.toArray n }) (hf : f its.toArray = its'.toArray) (hv : Vals ys its') (hz : ys.length ≤ sizeLine) :
   Inv X pins σ (upd H l (.lst ys)) { s with heap := s.heap.update l (Obj.mapSeq f), toks := t' } := by
 have q := PySem.IsL.update e f
 rw [hf] at q
 refine I.write (x := l) (e := l) (by rw [hH]; exact trivial) (.inl rfl) (fun b' u hb hu => (Heap.get?_update_other s.heap (Obj.mapSeq f) (Ne.symm hb)).trans hu) ⟨_, q⟩ ?_
 exact ⟨hz, its', _, hv, q⟩
theorem Inv.lnew {its : List Value} {t' : Nat} (I : Inv X pins σ H s) (hv : Vals ys its) (hz : ys.length ≤ sizeLine) :
   Inv X pins σ (upd H s.heap.objs.size (.lst ys)) { s with heap := s.heap.push { cls := .type "list", data := .seq its.toArray }, toks := t' } :=
 I.laid (fun _ _ q => Heap.get?_push_of_some _ q) (Nat.le_refl _) ⟨hz, its, 0, hv, Heap.get?_push_size _ rfl⟩
theorem Inv.fresh (I : Inv X pins σ H s) : H s.heap.objs.size = none := I.hok.fresh (Nat.le_refl _)
theorem Inv.lstM (I : Inv X pins σ H s) (hH : H l = some (.lst xs)) : xs.length ≤ sizeLine ∧ ∃ (its : List Value) (n : Nat), Vals xs its ∧ xs.length = its.length ∧ s.heap.get? l = some { cls := .type "list", data := .seq its.toArray n } := by
 obtain ⟨z, its, n, r, e⟩ := I.hok l _ hH
 exact ⟨z, its, n, r, r.length, e⟩
theorem notLongL {n : Nat} (h : n ≤ sizeLine) : Builtin.List.listTooLong n = false := by
 unfold Builtin.List.listTooLong
 exact decide_eq_false (by omega)
end
section
variable {X : Cx}
def rAppend : V → List V → Hp → VK → Prop := fun x vs H Q => ∃ l xs y, x = .ref l ∧ vs = [y] ∧ H l = some (.lst xs) ∧ xs.length < sizeLine ∧ Q .non (upd H l (.lst (xs ++ [y])))
theorem Vb : MtM X "list.append" rAppend := by
 intro pins s σ H x vs v us Q I rx rv h
 obtain ⟨l, xs, y, rfl, rfl, hH, hz, q⟩ := h
 cases rx
 obtain ⟨u, rfl, ru⟩ := rv.one
 obtain ⟨z, its, n, r, hl, e⟩ := I.lstM hH
 refine call_meets F.slot_list_append ⟨_, e, rfl⟩ F.entry_list_append (F.args_list_append_2 _ _) (PySem.list_append l its.toArray n u (by rw [List.size_toArray]; omega)) ⟨e, ?_⟩
 refine ⟨.non, _, I.lset (its' := its ++ [u]) hH e (by simp) (r.append (.cons ru .nil)) ?_, rfl, q⟩
 rw [List.length_append, List.length_singleton]
 omega
def rExtend : V → List V → Hp → VK → Prop := fun x vs H Q => ∃ l b xs zs, x = .ref l ∧ vs = [.ref b] ∧ H l = some (.lst xs) ∧ H b = some (.lst zs) ∧ xs.length + zs.length ≤ sizeLine ∧ Q .non (upd H l (.lst (xs ++ zs)))
theorem mt_extend : MtM X "list.extend" rExtend := by
 intro pins s σ H x vs v us Q I rx rv h
 obtain ⟨l, b, xs, zs, rfl, rfl, hH, hB, hz, q⟩ := h
 cases rx
 obtain ⟨u, rfl, ru⟩ := rv.one
 cases ru
 obtain ⟨z, its, n, r, hl, e⟩ := I.lstM hH
 obtain ⟨z2, its2, n2, r2, hl2, e2⟩ := I.lstM hB
 have hsz : its.toArray.size + its2.toArray.size ≤ sizeLine := by rw [List.size_toArray, List.size_toArray]; omega
 have hlong : ¬ (!its.toArray.isEmpty && Builtin.List.listTooLong (its.toArray.size + its2.toArray.size)) = true := by
   rw [notLongL hsz, Bool.and_false]
   exact Bool.false_ne_true
 refine call_meets F.slot_list_extend ⟨_, e, rfl⟩ F.entry_list_extend (F.args_list_extend_2 _ _)
   (AutoSeq1.list_extend_list_list_0 l its.toArray n b its2.toArray n2 hlong (by rw [List.size_toArray]; omega) (by omega)) ⟨e, e2, ?_⟩
 refine ⟨.non, _, I.lset (its' := its ++ its2) hH e (by simp) (r.append r2) ?_, rfl, q⟩
 rw [List.length_append]
 omega
def rPopAt : V → List V → Hp → VK → Prop := fun x vs H Q => ∃ l xs i k y, x = .ref l ∧ vs = [.int i] ∧ H l = some (.lst xs) ∧ -(2 ^ 63) ≤ i ∧ i < 2 ^ 63 ∧ seqIndex? i xs.length = some k ∧ xs[k]? = some y ∧ Q y (upd H l (.lst (xs.eraseIdx k)))
theorem mt_popAt : MtM X "list.pop" rPopAt := by
 intro pins s σ H x vs v us Q I rx rv h
 obtain ⟨l, xs, i, k, y, rfl, rfl, hH, h1, h2, hk, hy, q⟩ := h
 cases rx
 obtain ⟨u, rfl, ru⟩ := rv.one
 obtain ⟨t, rfl⟩ := ru
 obtain ⟨z, its, n, r, hl, e⟩ := I.lstM hH
 obtain ⟨w, hw, rw'⟩ := r.get hy
 refine call_meets F.slot_list_pop ⟨_, e, rfl⟩ F.entry_list_pop (F.args_list_pop_2 _ _)
   (MeetsSeq.list_pop_at l its.toArray n i t k w (fitsIndex_both h1 h2) (by rw [List.size_toArray, ← hl]; exact hk) (by rw [← Array.getElem?_toList]; exact hw) (by rw [List.size_toArray]; omega)) ⟨e, ?_⟩
 refine ⟨y, _, I.lset (its' := its.eraseIdx k) hH e ?_ (r.eraseIdx k) ?_, rw', q⟩
 · show its.toArray.eraseIdxIfInBounds k = (its.eraseIdx k).toArray
   rw [List.eraseIdxIfInBounds_toArray]
 · have := TQ xs k
   omega
def rCat : R2 := fun x y H Q => ∃ l b xs zs, x = .ref l ∧ y = .ref b ∧ H l = some (.lst xs) ∧ H b = some (.lst zs) ∧ xs.length + zs.length ≤ sizeLine ∧ ∀ p, H p = none → Q (.ref p) (upd H p (.lst (xs ++ zs)))
theorem UW : OpR X (binaryOp .Add) rCat := by
 intro pins s σ H x y v u Q I rx ry h
 obtain ⟨l, b, xs, zs, rfl, rfl, hH, hB, hz, q⟩ := h
 cases rx
 cases ry
 obtain ⟨z, its, n, r, hl, e⟩ := I.lstM hH
 obtain ⟨z2, its2, n2, r2, hl2, e2⟩ := I.lstM hB
 refine PySem.P.add_list e e2 ?_ (by rw [List.size_toArray, List.size_toArray]; omega)
 have ea : its.toArray ++ its2.toArray = (its ++ its2).toArray := by simp
 rw [ea]
 exact ⟨.ref _, _, I.lnew (t' := s.toks) (r.append r2) (by rw [List.length_append]; omega), rfl, q _ I.fresh⟩
def rRep : R2 := fun x y H Q => ∃ l k xs, x = .ref l ∧ y = .int k ∧ H l = some (.lst xs) ∧ -(2 ^ 63) ≤ k ∧ k < 2 ^ 63 ∧ xs.length * k.toNat ≤ sizeLine ∧
 ∀ p, H p = none → Q (.ref p) (upd H p (.lst (List.replicate k.toNat xs).flatten))
theorem len_rep {α : Type} (xs : List α) (k : Nat) : (List.replicate k xs).flatten.length = k * xs.length := by
 induction k with
 | zero => simp
 | succ k ih => rw [List.replicate_succ, List.flatten_cons, List.length_append, ih, Nat.succ_mul, Nat.add_comm]
theorem op_rep : OpR X (binaryOp .Mult) rRep := by
 intro pins s σ H x y v u Q I rx ry h
 obtain ⟨l, k, xs, rfl, rfl, hH, h1, h2, hz, q⟩ := h
 cases rx
 obtain ⟨t, rfl⟩ := ry
 obtain ⟨z, its, n, r, hl, e⟩ := I.lstM hH
 have hlen : its.toArray.size * k.toNat ≤ sizeLine := by rw [List.size_toArray, ← hl]; exact hz
 have hcap : ¬ its.toArray.size * k.toNat > (2 ^ 63 - 1) / 8 := by
   have : (sizeLine : Nat) ≤ (2 ^ 63 - 1) / 8 := by decide
   omega
 have hfit : ¬ (!Builtin.List.listFitsIndex k) = true := by
   rw [fitsIndex_both h1 h2]
   exact Bool.false_ne_true
 have hlong : ¬ Builtin.List.listTooLong (its.toArray.size * k.toNat) = true := by
   rw [notLongL hlen]
   exact Bool.false_ne_true
 have hnew : List.foldl (fun x1 x2 => x1 ++ x2) #[] (List.replicate (if its.toArray.isEmpty = true then 0 else k.toNat) its.toArray) = (List.replicate k.toNat its).flatten.toArray := by
   have f0 : ∀ m : Nat, List.foldl (fun x1 x2 => x1 ++ x2) #[] (List.replicate m its.toArray) = (List.replicate m its).flatten.toArray := fun m => by
     have := TW its m []
     rw [List.nil_append] at this
     exact this
   rw [f0]
   cases its with
   | nil => simp
   | cons a r' => rw [if_neg (by simp)]
 refine wpAny_binaryOp_repeat_ref (T := "list") (U := "int") (by decide) ⟨_, e, rfl⟩ (fun s' => typeIs_int s' k t) noFill_list_mul F.fills_int_mul F.slot_int_rmul repeat_list F.slot_int_index.lookup
   (call_meets F.slot_int_rmul (typeIs_int s k t) F.entry_int_rmul (F.args_int_rmul_2 _ _) (int___rmul___int_list k t l its.toArray n)
     ⟨e, rfl, ⟨_, e, rfl⟩, call_meets F.slot_list_mul ⟨_, e, rfl⟩ F.entry_list_mul (F.args_list_mul_2 _ _) (AutoListH.list___mul___list_int_3 l its.toArray n k t hfit hcap hlong) ⟨e, ?_⟩⟩)
 rw [hnew]
 exact ⟨.ref _, _, I.lnew (t' := s.toks) (r.rep k.toNat) (by rw [len_rep, Nat.mul_comm]; exact hz), rfl, q _ I.fresh⟩
end
section
variable {prog : Program} {w : World} {A : Around} {E : Value → Shared → Prop} {s : Shared}
end
section
variable {X : Cx}
end
end L2
namespace Att
open PySem PySem.W PySem.Calls PyProof.Rows
theorem Up {P : Params} {h : Heap} : ∀ (ns : List Int) (vs : List Value), WellAll P h vs (ns.map WData.int) → IntsAre vs ns := by
 intro ns
 induction ns with
 | nil =>
   intro vs w
   rw [List.map_nil] at w
   cases w
   exact .nil
 | cons n ns ih =>
   intro vs w
   rw [List.map_cons] at w
   cases w with
   | cons a b =>
     cases a
     exact .cons _ _ (ih _ b)
theorem script_of {l : OpenLaw} {n : Nat} (hn : l.most = some n) {P : Params} {h : Heap} {args : List WData} {vals : List Value}
   (hpre : l.row.toRowW.claim.pre args = true) (hwl : WellAll P h vals args) :
   ∃ a vs ns, vals = [Value.ref a] ∧ args = [WData.list (ns.map WData.int)] ∧ h.get? a = some { cls := .type "list", data := .seq vs.toArray } ∧ IntsAre vs ns ∧ ns.length ≤ n := by
 have hsh : WShape.hasAll [] args [.list .int] = true := (pre_splitW hpre).1
 have hc : l.pre.holds [] { args := args } = true := (pre_splitW hpre).2
 obtain ⟨d, r, rfl, h1, h2⟩ := hasAllW_cons hsh
 obtain rfl := hasAllW_nil h2
 obtain ⟨xs, rfl, h3⟩ := hasW_list h1
 obtain ⟨ns, rfl⟩ := items_int h3
 have hlen : ns.length ≤ n := by
   unfold OpenLaw.pre at hc
   have h4 : (WTm.not (.lt (.lit (.int (n : Int))) (.len (.arg 0)))).holds [] { args := [.list (ns.map .int)] } = true := by
     have h4 := (holds_andW hc).1
     rw [hn] at h4
     exact h4
   have h5 := condW_of h4 (w_not (w_lt w_lit (w_len_list (w_arg rfl))))
   rw [List.length_map] at h5
   refine Nat.le_of_not_lt fun q => ?_
   have q' : (n : Int) < ((ns.length : Nat) : Int) := by omega
   first
     | (rw [decide_eq_true q'] at h5; exact absurd h5 (by decide))
     | (simp at h5; omega)
 cases hwl with
 | cons w1 w2 =>
   cases w2
   cases w1 with
   | list ho hall => exact ⟨_, _, ns, rfl, rfl, ho, Up ns _ hall, hlen⟩
theorem post_true (l : OpenLaw) (args : List WData) : l.row.toRowW.claim.post args (.bool true) args = true :=
 postW_of (r := l.row.toRowW) (X := (true == true))
   (show WShape.has [] (.bool true) .bool = true by first | rfl | decide | simp [WShape.has, WShape.arms, WShape.armsAll])
   (show (WTm.eq .res (.lit (.bool true))).value [] { args := args, res := some (.bool true), after := args } = some (.bool (true == true)) from w_eq_bool (w_res rfl) w_lit) rfl
theorem attach_call {l : OpenLaw} {n : Nat} {q : Program} {loose : List Str} {XP : (Str → Option Value) → Heap → Prop} {YP : World → Heap → Prop} {d : DefRec}
   (hn : l.most = some n) (hdf : d.params.defaults = [])
   (call : ∀ (w : World) (s₀ s₁ : Shared) (mg mb : Str → Option Value) (fa : Addr) (o : Obj) (pm cd doc : Value) (a : Addr) (vs : List Value) (ns : List Int),
     Ground q loose [] XP w s₀ mg mb s₁.heap → YP w s₁.heap →
     s₁.heap.get? fa = some o → o.data = .func (docDef d.name d.params d.body d.scope pm cd doc) → s₁.heap.CodeRec cd d.name → mg d.name = some (.ref fa) →
     s₁.heap.get? a = some { cls := .type "list", data := .seq vs.toArray } → IntsAre vs ns → ns.length ≤ n → s₁.gens = #[] →
     codeAny (model l.prog w) callerA (.call (.ref fa) ⟨[.ref a], []⟩) (fun r s' => r = .ok (.ret (.bool true)) ∧ OldK s₁.heap s'.heap ∧ s'.os = s₁.os ∧ AllBare s'.gens) s₁) :
   WalkO q loose XP YP l.row.toRowW d [] (fun f vs => PySem.call f vs) := by
 intro w s₀ s₁ mg mb G Y fa o pm cd doc dV kV ho hd hcd hD hmg hg args vals as hpre hlay hrd hwl hlo
 obtain rfl : dV = .none := Dflts.none hD hdf
 obtain rfl : kV = .none := Dflts.noKw hD
 obtain ⟨a, vs, ns, rfl, rfl, hobj, hints, hlen⟩ := script_of hn hpre hwl
 refine enter_call (codeAny_mono (call w s₀ s₁ mg mb fa o pm cd doc a vs ns G Y ho (fd_plain hd) hcd hmg hobj hints hlen hg) fun r s' hq => ?_)
 obtain ⟨rfl, h2, h3, h4⟩ := hq
 exact ⟨.inl ⟨.bool true, .bool true, [], rfl, fun _ => rfl, .bool true, post_true l _, fun _ => ⟨List.Pairwise.nil, fun _ hm => (nomatch hm)⟩⟩, h2, h3, h4⟩
section
variable {prog : Program} {w : World} {A : Around} {E : Value → Shared → Prop} {s : Shared} {K : Frag}
end
end Att
namespace L2
open PySem PySem.Spec PyProof.Rows
theorem VM : ∀ {vs : List Value} {ns : List Int}, IntsAre vs ns → Vals (ns.map V.int) vs
 | _, _, .nil => .nil
 | _, _, .cons n t h => .cons ⟨t, rfl⟩ (VM h)
def Only (H : Hp) : Prop := ∀ b, H b = none ∨ ∃ o xs, H b = some (.frz o (.lst xs))
theorem law_call {P : Program} {w : World} {K : W.Frag} {mg mb : Str → Option Value} {CX : CXT} {k : Nat} {fa a : Addr} {fd : FuncData} {x : Str} {sp : Sp} {s₁ : Shared} {vs : List Value} {ns : List Int}
   (KX : K.In s₁.heap) (hns : s₁.heap.Ns mainGlobals mg) (hb : s₁.heap.Ns builtinsNs mb) (hbb : ∀ x : Str, x ≠ "__name__" → mb x = bootBuiltins x) (hlim : s₁.heap.NoLimit) (hg : s₁.gens = #[])
   (ha : s₁.heap.get? a = some { cls := .type "list", data := .seq vs.toArray }) (hi : IntsAre vs ns) (hl : ns.length ≤ sizeLine) (hr : Room k callerA)
   (F : ∀ base : Heap, K.In base → base.Ns mainGlobals mg → FnOk P w K mg base CX k fa fd [x] sp) (hbind : ∀ (s : Shared) (u : Value), BindsTo s fd ⟨[u], []⟩ [(x, u)])
   (hsp : ∀ H : Hp, Only H → SqL K H a (ns.map V.int) → sp [.ref a] H (fun v _ => v = .bl true) fun _ _ _ => False)
   (hCX : ∀ H e s', CX [] H s₁ (fun _ _ _ => False) e s' → False) :
   codeAny (model P w) callerA (.call (.ref fa) ⟨[.ref a], []⟩) (fun r s' => r = .ok (.ret (.bool true)) ∧ OldK s₁.heap s'.heap ∧ s'.os = s₁.os ∧ AllBare s'.gens) s₁ := by
 have rv := VM hi
 have lenV := hi.length
 have core : ∀ H : Hp, Only H → SqL K H a (ns.map V.int) → HOk P w H s₁.heap → (∀ b, H b ≠ none → b = a) → (H a ≠ none → K.lookup a = none) →
     codeAny (model P w) callerA (.call (.ref fa) ⟨[.ref a], []⟩) (fun r s' => r = .ok (.ret (.bool true)) ∧ OldK s₁.heap s'.heap ∧ s'.os = s₁.os ∧ AllBare s'.gens) s₁ := by
   intro H hO hS hok hA hK
   have base_of : ∀ {b : Addr} {o : Obj}, s₁.heap.get? b = some o → H b = none → (hidT s₁.heap H).get? b = some o := fun e n => hidT_get e n
   have noA : ∀ {b : Addr} {o : Obj} {es : Array DictEntry} {ep : Nat}, s₁.heap.get? b = some o → o.data = .dict es ep → H b = none := fun {b o es ep} e d => by
     cases q : H b with
     | none => rfl
     | some u =>
       have e' : b = a := hA b (by rw [q]; simp)
       subst e'
       rw [ha] at e; cases e
       have d' : Data.seq vs.toArray _ = Data.dict es ep := d
       cases d'
   have nsK : ∀ {b : Addr} {m : Str → Option Value}, s₁.heap.Ns b m → (hidT s₁.heap H).Ns b m := fun {b m} ⟨o, es, ep, e, d, r⟩ => ⟨o, es, ep, base_of e (noA e d), d, r⟩
   have hKb : K.In (hidT s₁.heap H) := fun b o e => base_of (KX b o e) (by
     cases q : H b with
     | none => rfl
     | some u =>
       have e' : b = a := hA b (by rw [q]; simp)
       subst e'
       rw [hK (by rw [q]; simp)] at e; cases e)
   have hM : Mod K mg (hidT s₁.heap H) := ⟨hKb, nsK hns, ⟨mb, nsK hb, hbb⟩, let ⟨mc, h1, h2⟩ := hlim; ⟨mc, nsK h1, h2⟩⟩
   have e0 : Env0 P w K mg (hidT s₁.heap H) callerA [] s₁ H := ⟨rfl, hM, fun b o e => of_hidT e, Nat.le_of_eq (hidT_size _ _), trivial, fun b hb => absurd (show b ∈ ([] : List Addr) from hb) (by simp), hok, .of_eq hg⟩
   refine codeAny_mono ((F _ hKb (nsK hns)).run callerA [] s₁ H ⟨[.ref a], []⟩ [.ref a] [.ref a] _ _ hr e0 (hbind s₁ (.ref a)) (.cons rfl .nil) (hsp H hO hS)) fun r s' h => ?_
   cases r with
   | error e => exact (hCX H e s' h).elim
   | ok fl =>
     cases fl with
     | next => exact False.elim h
     | brk => exact False.elim h
     | cont => exact False.elim h
     | ret u =>
       obtain ⟨v, H', os, bare, un, hok', r', q⟩ := h
       have q' : v = .bl true := q
       subst q'
       obtain rfl : u = Value.bool true := r'
       refine ⟨rfl, OldK.of_keep fun b o e => ?_, os, bare⟩
       cases q : H b with
       | none => exact un.keep b o e q (by intro z; exact absurd (show b ∈ ([] : List Addr) from z) (by simp)) (by simp)
       | some u =>
         rcases hO b with z | ⟨ob, xs, z⟩
         · rw [q] at z; cases z
         · have z2 := un.frzs b ob _ z
           obtain ⟨e1, _⟩ := hok b _ z
           obtain ⟨e2, _⟩ := hok' b _ z2
           rw [e] at e1; cases e1
           exact e2
 cases hk : K.lookup a with
 | some o =>
   have e := KX a o hk
   rw [ha] at e
   cases e
   refine core (fun _ => none) (fun _ => .inl rfl) (.inr ⟨_, vs.toArray, _, hk, rfl, rfl, rfl, by rw [List.size_toArray, lenV]; exact hl, by simpa using rv⟩) (fun b u z => by have z' : (none : Option HO) = some u := z; cases z') (fun b z => absurd rfl z) fun z => absurd rfl z
 | none =>
   refine core (fun b => if b = a then some (.frz { cls := .type "list", data := .seq vs.toArray } (.lst (ns.map V.int))) else none) (fun b => ?_) (.inl (.inr ⟨{ cls := .type "list", data := .seq vs.toArray }, if_pos rfl⟩)) (fun b u z => ?_) (fun b z => ?_) fun _ => hk
   · by_cases hb : b = a
     · exact .inr ⟨_, _, if_pos hb⟩
     · exact .inl (if_neg hb)
   · by_cases hb : b = a
     · have z' := (if_pos hb).symm.trans z
       cases z'
       subst hb
       exact ⟨ha, by rw [List.length_map]; exact hl, vs, _, rv, ha⟩
     · have z' := (if_neg hb).symm.trans z
       cases z'
   · by_cases hb : b = a
     · exact hb
     · exact absurd (if_neg hb) z
end L2
namespace L2
open PySem PySem.Spec PyProof.Rows
abbrev KOf {K : W.Frag} {h : Heap} (_ : K.In h) : W.Frag := K
theorem walk_of {l : W.OpenLaw} {n k : Nat} {q : Program} {loose : List Str} {XP : (Str → Option Value) → Heap → Prop} {YP : World → Heap → Prop} {d : DefRec} {K : Params → W.Frag} {CX : World → CXT} {sp : World → Sp} {x : Str}
   (hn : l.most = some n) (hn2 : n ≤ sizeLine) (hdf : d.params.defaults = []) (hr : Room k callerA)
   (hY : ∀ (w : World) (h : Heap), YP w h → (K w.params).In h)
   (F : ∀ (w : World) (mg : Str → Option Value) (fa : Addr) (h : Heap), (K w.params).In h → h.Ns mainGlobals mg → mg d.name = some (.ref fa) →
     ∃ fd : FuncData, (∀ (s : Shared) (u : Value), BindsTo s fd ⟨[u], []⟩ [(x, u)]) ∧
       ∀ base : Heap, (K w.params).In base → base.Ns mainGlobals mg → FnOk l.prog w (K w.params) mg base (CX w) k fa fd [x] (sp w))
   (hsp : ∀ (w : World) (H : Hp) (a : Addr) (ns : List Int), ns.length ≤ n → Only H → SqL (K w.params) H a (ns.map V.int) → sp w [.ref a] H (fun v _ => v = .bl true) fun _ _ _ => False)
   (hCX : ∀ (w : World) (H : Hp) (s : Shared) (e : Value) (s' : Shared), CX w [] H s (fun _ _ _ => False) e s' → False) :
   W.WalkO q loose XP YP l.row.toRowW d [] (fun f vs => PySem.call f vs) := by
 refine Att.attach_call hn hdf fun w s₀ s₁ mg mb fa o pm cd doc a vs ns G Y ho hd hcd hmg hobj hints hlen hg => ?_
 have KX := hY w _ Y
 obtain ⟨fd, hb, hF⟩ := F w mg fa _ KX G.T.g hmg
 exact law_call KX G.T.g G.T.b G.T.builtins G.T.nolimit hg hobj hints (Nat.le_trans hlen hn2) hr hF hb (fun H hO hS => hsp w H a ns hlen hO hS) fun H e s' => hCX w H s₁ e s'
end L2
namespace L2
open PySem PySem.Spec PyProof.Rows
def Yn (s : Stmt) (j : Nat) : Stmt := match s with
 | .ClassDef _ _ _ body _ _ _ _ _ _ _ => body.getD j (.Pass ⟨0, 0, 0, 0⟩)
 | _ => .Pass ⟨0, 0, 0, 0⟩
def Zo (s : Stmt) : Arguments := match s with
 | .FunctionDef _ a _ _ _ _ _ _ _ _ => a
 | _ => { posonlyargs := [], args := [], vararg := none, kwonlyargs := [], kw_defaults := [], kwarg := none, defaults := [] }
def Zn (s : Stmt) : List Stmt := match s with
 | .FunctionDef _ _ b _ _ _ _ _ _ _ => b
 | _ => []
def Ze (s : Stmt) : Scope := match s with
 | .FunctionDef _ _ _ _ _ _ sc _ _ _ => sc
 | _ => { kind := .function, names := [], isGenerator := false, isCoroutine := false }
abbrev E0 : XK := fun _ _ _ => False
structure Fun (K : W.Frag) (x qual : Str) (st : Stmt) (f : Addr) (fd : FuncData) : Prop where
 ex : ∃ (oc : Value) (od : Option Addr) (kV doc pm : Value) (an : Option Addr) (cdv ct : Value) (osl : Array (Option Value)),
   fd = W.fnOf x qual (Zo st) (Zn st) (Ze st) .none kV doc pm an cdv ct ∧ K.lookup f = some ⟨oc, od, .func fd, osl⟩ ∧ W.codeIn K cdv qual = true
 kp : W.keepIn K (.ref f) = true
section
variable {P : Program} {w : World} {K : W.Frag} {mg : Str → Option Value} {base : Heap}
theorem Fun.binds {x qual : Str} {st : Stmt} {f : Addr} {fd : FuncData} {ps : List Str} (F : Fun K x qual st f fd)
   (h : ∀ (kV doc pm : Value) (an : Option Addr) (cdv ct : Value) (us : List Value), us.length = ps.length → bindArgs (W.fnOf x qual (Zo st) (Zn st) (Ze st) .none kV doc pm an cdv ct) ⟨us, []⟩ = pure (ps.zip us)) : Binds K fd ps [] := by
 obtain ⟨oc, od, kV, doc, pm, an, cdv, ct, osl, rfl, lk, hcd⟩ := F.ex
 exact .all (h kV doc pm an cdv ct)
theorem Zl {x qual : Str} {st : Stmt} {f : Addr} {oc : Value} {od an : Option Addr} {osl : Array (Option Value)} {kV doc pm cdv ct : Value} (l : K.lookup f = some ⟨oc, od, .func (W.fnOf x qual (Zo st) (Zn st) (Ze st) .none kV doc pm an cdv ct), osl⟩)
   (c : W.codeIn K cdv qual = true) (k : W.keepIn K (.ref f) = true) : Fun K x qual st f (W.fnOf x qual (Zo st) (Zn st) (Ze st) .none kV doc pm an cdv ct) := ⟨⟨oc, od, kV, doc, pm, an, cdv, ct, osl, rfl, l, c⟩, k⟩
end
theorem Vj {A : Around} {k : Nat} (hr : Room k A) : A.units + 1 < cLine := Nat.lt_of_le_of_lt (Nat.add_le_add_left (by decide : 1 ≤ 64) _) hr.units
theorem VN {n : Nat} (h : n ≤ 1000) : n < sizeLine := Nat.lt_of_le_of_lt h (by decide)
section
variable {X : Cx}
theorem pv (i : Nat) {x : Str} {pos : Pos} (hN : X.N[i]? = some x := by rfl) (hv : Vis X.env.scope x := by first | exact Or.inl rfl | exact Or.inr (Or.inl rfl) | exact Or.inr (Or.inr rfl)) (hd : (x == ("__debug__" : Str)) = false := by decide)
   (hcd : (x == ("__classdict__" : Str)) = false := by decide) : PE X (.Name x pos) (tVar i) := pe_var hN hv hd hcd
end
theorem iteF {A B : Prop} (h : B) : if false = true then A else B := by
 rw [if_neg Bool.false_ne_true]
 exact h
theorem iteT {A B : Prop} (h : A) : if true = true then A else B := by
 rw [if_pos rfl]
 exact h
theorem ite2 {c A B : Prop} [Decidable c] (h1 : c → A) (h2 : ¬ c → B) : if c then A else B := by
 by_cases h : c
 · rw [if_pos h]
   exact h1 h
 · rw [if_neg h]
   exact h2 h
def Same (H H' : Hp) : Prop := ∀ b o, H b = some o → H' b = some o
theorem Same.refl (H : Hp) : Same H H := fun _ _ h => h
theorem Same.trans {H H1 H2 : Hp} (a : Same H H1) (b : Same H1 H2) : Same H H2 := fun c o h => b c o (a c o h)
theorem Same.free {H H' : Hp} (e : Same H H') {l : Addr} (h : H' l = Option.none) : H l = Option.none := by
 cases q : H l with
 | none => rfl
 | some o =>
   rw [e l o q] at h
   cases h
theorem Same.seq {K : W.Frag} {H H' : Hp} {a : Addr} {xs : List V} (e : Same H H') (h : SqL K H a xs) : SqL K H' a xs := by
 rcases h with (h | ⟨o, h⟩) | h
 · exact .inl (.inl (e _ _ h))
 · exact .inl (.inr ⟨o, e _ _ h⟩)
 · exact .inr h
section
variable {κ : Type} [DecidableEq κ]
end
end L2
end
section
namespace Mir
structure Al (ν : Type) where
 name : ν
 tick : Int
 step : Option Int
deriving DecidableEq
abbrev Dct (α : Type) := List (Int × α)
section
variable {α : Type}
def get (t : Dct α) (n : Int) : Option (α) := (t.find? fun p => decide (p.1 = n)).map (·.2)
def put (t : Dct α) (n : Int) (a : α) : Dct α := if t.any (fun p => decide (p.1 = n)) then t.map (fun p => if p.1 = n then (p.1, a) else p) else t ++ [(n, a)]
def drop (t : Dct α) (n : Int) : Dct α := t.filter fun p => !decide (p.1 = n)
abbrev keys (t : Dct α) : List Int := t.map (·.1)
theorem get_nil (n : Int) : get ([] : Dct α) n = none := rfl
theorem ZV (p : Int × α) (t : Dct α) (n : Int) : get (p :: t) n = if p.1 = n then some p.2 else get t n := by
 unfold get
 rw [List.find?_cons]
 by_cases h : p.1 = n <;> simp [h]
theorem get_none {t : Dct α} {n : Int} : get t n = none ↔ n ∉ keys t := by
 induction t with
 | nil => simp [get_nil]
 | cons p t ih =>
   rw [ZV]
   by_cases e : p.1 = n
   · simp [e]
   · rw [if_neg e, ih]
     simp only [keys, List.map_cons, List.mem_cons, not_or]
     exact ⟨fun h => ⟨fun z => e z.symm, h⟩, fun h => h.2⟩
theorem UB {t : Dct α} {n : Int} : t.any (fun p => decide (p.1 = n)) = (get t n).isSome := by
 induction t with
 | nil => rfl
 | cons p t ih =>
   rw [List.any_cons, ih, ZV]
   by_cases e : p.1 = n <;> simp [e]
theorem Zw (t : Dct α) (n m : Int) (a : α) : get (put t n a) m = if m = n then some a else get t m := by
 unfold put
 rw [UB]
 by_cases h : (get t n).isSome = true
 · rw [if_pos h]
   induction t with
   | nil => cases h
   | cons p t ih =>
     rw [List.map_cons, ZV, ZV]
     rw [ZV] at h
     by_cases e : p.1 = n
     · rw [if_pos e]
       by_cases em : m = n
       · subst em
         simp [e]
       · have ne : ¬ p.1 = m := fun z => em (z ▸ e)
         have ne2 : ¬ n = m := fun z => em z.symm
         simp only [e, em, if_false, ne2]
         have tail : ∀ l : Dct α, get (l.map fun p => if p.1 = n then (p.1, a) else p) m = get l m := by
           intro l
           induction l with
           | nil => rfl
           | cons q l il =>
             rw [List.map_cons, ZV, ZV, il]
             by_cases eq : q.1 = n
             · simp [eq, ne2]
             · simp [eq]
         simpa [e, ne2] using tail t
     · rw [if_neg e] at h
       simp only [e, if_false]
       by_cases em : p.1 = m
       · have ne : ¬ m = n := fun z => e (em.trans z)
         simp [em, ne]
       · rw [if_neg em, if_neg em]
         exact ih h
 · rw [if_neg h]
   have hn : get t n = none := by simpa using h
   induction t with
   | nil =>
     show get [(n, a)] m = _
     rw [ZV]
     by_cases em : m = n
     · simp [em]
     · have : ¬ n = m := fun z => em z.symm
       simp [em, this]
   | cons p t ih =>
     rw [List.cons_append, ZV, ZV]
     rw [ZV] at hn h
     by_cases e : p.1 = n
     · rw [if_pos e] at hn
       cases hn
     · rw [if_neg e] at hn h
       by_cases em : p.1 = m
       · have ne : ¬ m = n := fun z => e (em.trans z)
         simp [em, ne]
       · rw [if_neg em, if_neg em]
         exact ih h hn
theorem ZB (t : Dct α) (n m : Int) : get (drop t n) m = if m = n then none else get t m := by
 unfold drop
 induction t with
 | nil => simp [get_nil]
 | cons p t ih =>
   rw [List.filter_cons, ZV]
   by_cases e : p.1 = n
   · simp only [e, decide_true, Bool.not_true, Bool.false_eq_true, if_false]
     rw [ih]
     by_cases em : m = n
     · simp [em]
     · have : ¬ n = m := fun z => em z.symm
       simp [em, this]
   · simp only [e, decide_false, Bool.not_false, if_true]
     rw [ZV, ih]
     by_cases em : p.1 = m
     · have : ¬ m = n := fun z => e (em.trans z)
       simp [em, this]
     · simp [em]
theorem VD {t : Dct α} {n : Int} (a : α) (h : get t n = none) : keys (put t n a) = keys t ++ [n] := by
 unfold put
 rw [UB, h]
 simp [keys]
theorem SC {t : Dct α} {n : Int} (a : α) (h : (get t n).isSome = true) : keys (put t n a) = keys t := by
 unfold put
 rw [UB, if_pos h]
 simp only [keys, List.map_map]
 apply List.map_congr_left
 intro p _
 by_cases e : p.1 = n <;> simp [e]
theorem YO {t : Dct α} (nd : (keys t).Nodup) (n : Int) (a : α) : (keys (put t n a)).Nodup := by
 by_cases h : (get t n).isSome = true
 · rw [SC a h]
   exact nd
 · have hn : get t n = none := by simpa using h
   rw [VD a hn, List.nodup_append]
   refine ⟨nd, by simp, fun x hx y hy e => ?_⟩
   have ey : y = n := by simpa using hy
   subst ey
   exact get_none.mp hn (e ▸ hx)
theorem Xw {t : Dct α} (nd : (keys t).Nodup) (n : Int) : (keys (drop t n)).Nodup := nd.sublist (List.Sublist.map _ List.filter_sublist)
end
abbrev Fn (ν : Type) := Int → Option (Al ν)
section
variable {ν : Type}
def fput (f : Fn ν) (n : Int) (o : Option (Al ν)) : Fn ν := fun m => if m = n then o else f m
theorem ZF (f : Fn ν) (n : Int) (o : Option (Al ν)) : fput f n o n = o := by simp [fput]
theorem ZW (f : Fn ν) {n m : Int} (o : Option (Al ν)) (h : m ≠ n) : fput f n o m = f m := by simp [fput, h]
def after (a : Al ν) : Option (Al ν) := a.step.map fun k => { a with tick := a.tick + k }
def Ahead (t n u m : Int) : Prop := t < u ∨ (t = u ∧ n ≤ m)
theorem Ahead.antisymm {t n u m : Int} (h : Ahead t n u m) (h' : Ahead u m t n) : t = u ∧ n = m := by
 unfold Ahead at h h'
 omega
structure Next (goal : Int) (f : Fn ν) (n : Int) (a : Al ν) : Prop where
 there : f n = some a
 due : a.tick ≤ goal
 first : ∀ m b, f m = some b → Ahead a.tick n b.tick m
theorem Next.unique {goal : Int} {f : Fn ν} {n m : Int} {a b : Al ν} (x : Next goal f n a) (y : Next goal f m b) : n = m ∧ a = b := by
 obtain ⟨_, e⟩ := (x.first m b y.there).antisymm (y.first n a x.there)
 subst e
 have z := x.there
 rw [y.there] at z
 cases z
 exact ⟨rfl, rfl⟩
inductive Runs (goal : Int) : Fn ν → List (Int × Int × ν) → Fn ν → Prop where
 | stop {f : Fn ν} : (∀ n a, f n = some a → goal < a.tick) → Runs goal f [] f
 | ring {f g : Fn ν} {n : Int} {a : Al ν} {l : List (Int × Int × ν)} : Next goal f n a → Runs goal (fput f n (after a)) l g → Runs goal f ((a.tick, n, a.name) :: l) g
theorem Runs.unique {goal : Int} {f : Fn ν} {l l' : List (Int × Int × ν)} {g g' : Fn ν} (x : Runs goal f l g) : Runs goal f l' g' → l = l' ∧ g = g' := by
 induction x generalizing l' g' with
 | stop h =>
   intro y
   cases y with
   | stop _ => exact ⟨rfl, rfl⟩
   | ring nx _ => exact absurd nx.due (Int.not_le.mpr (h _ _ nx.there))
 | ring nx r ih =>
   intro y
   cases y with
   | stop h => exact absurd nx.due (Int.not_le.mpr (h _ _ nx.there))
   | ring ny r' =>
     obtain ⟨rfl, rfl⟩ := nx.unique ny
     obtain ⟨rfl, rfl⟩ := ih r'
     exact ⟨rfl, rfl⟩
theorem Runs.append {g1 g2 : Int} {f f1 f2 : Fn ν} {l1 l2 : List (Int × Int × ν)} (x : Runs g1 f l1 f1) (y : Runs g2 f1 l2 f2) (h : g1 ≤ g2) : Runs g2 f (l1 ++ l2) f2 := by
 induction x with
 | stop _ => exact y
 | ring nx _ ih => exact .ring ⟨nx.there, Int.le_trans nx.due h, nx.first⟩ (ih y)
theorem Runs.end {goal : Int} {f g : Fn ν} {l : List (Int × Int × ν)} (x : Runs goal f l g) : ∀ n a, g n = some a → goal < a.tick := by
 induction x with
 | stop h => exact h
 | ring _ _ ih => exact ih
end
section
variable {ν : Type}
def cnt (goal : Int) (a : Al ν) : Nat := if a.tick ≤ goal then (match a.step with | none => 1 | some k => ((goal - a.tick) / k + 1).toNat) else 0
def cntO (goal : Int) : Option (Al ν) → Nat
 | none => 0
 | some a => cnt goal a
theorem TZ {goal : Int} {a : Al ν} (h : a.tick ≤ goal) (good : ∀ k, a.step = some k → 0 < k) : cntO goal (after a) + 1 = cnt goal a := by
 unfold after
 cases hs : a.step with
 | none => simp [cntO, cnt, h, hs]
 | some k =>
   have hk := good k hs
   simp only [Option.map_some, cntO, cnt, h, hs, if_true]
   have q0 : 0 ≤ (goal - a.tick) / k := Int.ediv_nonneg (by omega) (by omega)
   by_cases hd : a.tick + k ≤ goal
   · rw [if_pos hd]
     have e : (goal - a.tick) / k = (goal - (a.tick + k)) / k + 1 := by
       have : goal - a.tick = (goal - (a.tick + k)) + 1 * k := by omega
       rw [this, Int.add_mul_ediv_right _ _ (by omega)]
     have q1 : 0 ≤ (goal - (a.tick + k)) / k := Int.ediv_nonneg (by omega) (by omega)
     rw [e]
     omega
   · rw [if_neg hd]
     have e : (goal - a.tick) / k = 0 := Int.ediv_eq_zero_of_lt (by omega) (by omega)
     rw [e]
     rfl
end
end Mir
end
section
namespace L2
open PySem PySem.Spec PyProof.Rows
theorem ObjOk.there {P : Program} {w : World} {H : Hp} {h : Heap} {a : Addr} {o : HO} (x : ObjOk P w H h a o) : ∃ u, h.get? a = some u := by
 cases o with
 | lst xs => obtain ⟨_, _, _, _, e⟩ := x; exact ⟨_, e⟩
 | tup xs => obtain ⟨_, _, _, _, e, _⟩ := x; exact ⟨_, e⟩
 | dK kvs => obtain ⟨_, _, _, _, o, _, _, e, _⟩ := x; exact ⟨_, e⟩
 | dT kvs => obtain ⟨_, _, _, _, o, _, _, e, _⟩ := x; exact ⟨_, e⟩
 | set S n => obtain ⟨o, _, _, _, e, _⟩ := x; exact ⟨_, e⟩
 | ins C dx fs => obtain ⟨_, _, _, e, _⟩ := x; exact ⟨_, e⟩
 | own y => obtain ⟨_, e⟩ := x; exact ⟨_, e⟩
 | xd fs => obtain ⟨_, ⟨_, _, _, e, _⟩, _⟩ := x; exact ⟨_, e⟩
 | rng lo hi => obtain ⟨_, _, _, e⟩ := x; exact ⟨_, e⟩
 | frz ob u => obtain ⟨e, _⟩ := x; exact ⟨_, e⟩
 | tbl ps => exact ⟨_, (show h.get? a = some _ from x)⟩
 | met f y => exact ⟨_, (show h.get? a = some _ from x)⟩
 | ext φ => obtain ⟨_, ⟨_, e⟩, _⟩ := x; exact ⟨_, e⟩
theorem HOk.off {P : Program} {w : World} {H : Hp} {h : Heap} {a : Addr} (x : HOk P w H h) (e : h.get? a = none) : H a = none := by
 cases q : H a with
 | none => rfl
 | some u =>
   obtain ⟨v, z⟩ := (x a u q).there
   rw [e] at z
   cases z
def Thrown (h : Heap) (ea T : Addr) (cls a0 : Value) : Prop :=
 ∃ oe vs oT ts, h.get? ea = some oe ∧ (oe.cls = cls ∧ vs[0]? = some a0) ∧ oe.data = .fields vs ∧ vs[1]? = some (.ref T) ∧ T ≠ ea ∧ h.get? T = some oT ∧ oT.data = .fields ts ∧ ts[3]? = some .none
theorem Thrown.traced {h base : Heap} {ea T : Addr} {cls a0 : Value} (x : Thrown h ea T cls a0) (n : base.get? T = none) : h.TracedW base ea cls a0 :=
 let ⟨oe, vs, oT, ts, h1, h2, h3, h4, h5, h6⟩ := x; ⟨oe, vs, T, oT, ts, h1, h2, h3, h4, n, h5, h6⟩
theorem TC {h base : Heap} {ea : Addr} {cls a0 : Value} (x : h.TracedW base ea cls a0) : ∃ T, base.get? T = none ∧ Thrown h ea T cls a0 :=
 let ⟨oe, vs, T, oT, ts, h1, h2, h3, h4, n, h5, h6⟩ := x; ⟨T, n, oe, vs, oT, ts, h1, h2, h3, h4, h5, h6⟩
def FrOk (fs : List Addr) (h : Heap) : Prop := ∀ b ∈ fs, ∃ o, h.get? b = some o ∧ ∀ vs, o.data ≠ .fields vs
theorem FrOk.no {fs : List Addr} {h : Heap} {b : Addr} {o : Obj} {vs : Array Value} (F : FrOk fs h) (e : h.get? b = some o) (d : o.data = .fields vs) : b ∉ fs := fun hb => by
 obtain ⟨o', e', n⟩ := F b hb
 rw [e] at e'
 cases e'
 exact n vs d
theorem Thrown.offT {fs : List Addr} {h : Heap} {ea T : Addr} {cls a0 : Value} (x : Thrown h ea T cls a0) (F : FrOk fs h) : T ∉ fs := by
 obtain ⟨oe, vs, oT, ts, h1, h2, h3, h4, h5, h6, h7, _⟩ := x
 exact F.no h6 h7
theorem FrOk.up {fs : List Addr} {h h' : Heap} (F : FrOk fs h) (u : h.UpToSlots h') : FrOk fs h' := fun b hb => by
 obtain ⟨o, e, n⟩ := F b hb
 obtain ⟨sl, e'⟩ := u b o e n
 exact ⟨_, e', n⟩
theorem FrOk.keeps {fs : List Addr} {h h' : Heap} (F : FrOk fs h) (k : ∀ b o, h.get? b = some o → h'.get? b = some o) : FrOk fs h' := fun b hb => by
 obtain ⟨o, e, n⟩ := F b hb
 exact ⟨o, k b o e, n⟩
theorem Inv.frOk {X : Cx} {pins : List (Addr × Obj)} {σ : St} {H : Hp} {s : Shared} (I : Inv X pins σ H s) : FrOk (frs X.stack) s.heap := fun b hb => (I.stack.mem hb).2
structure Flung (P : Program) (w : World) (fs : List Addr) (H H' : Hp) (h h' : Heap) (ea T : Addr) (cls a0 : Value) : Prop where
 un : Un fs [] H H' h h'
 hok : HOk P w H' h'
 ne : h.get? ea = none
 nT : h.get? T = none
 fe : H' ea = none
 fT : H' T = none
 thr : Thrown h' ea T cls a0
section
variable {X : Cx} {pins : List (Addr × Obj)} {σ : St} {H H' : Hp} {s s' : Shared} {h h1 h2 : Heap} {ea T : Addr} {cls a0 : Value} {vs : List Value} {fs : List Addr} {P : Program} {w : World}
theorem flung_made (I : Inv X pins σ H s) (hx : Heap.MadeExcOf s.heap h1 ea cls vs) (st : (W.hideAll s.heap (frs X.stack)).StaysIn h2) (up : h1.UpToSlots h2)
   (tr : h2.TracedW (W.hideAll s.heap (frs X.stack)) ea cls a0) : ∃ T, Flung X.prog X.w (frs X.stack) H H s.heap h2 ea T cls a0 := by
 obtain ⟨T, nT, th⟩ := TC tr
 have fr2 : FrOk (frs X.stack) h2 := (I.frOk.keeps hx.keeps).up up
 have keep : ∀ b o, s.heap.get? b = some o → b ∉ frs X.stack → h2.get? b = some o := fun b o e n => st b o (W.hideAll_get _ e n)
 have slot : ∀ b o, s.heap.get? b = some o → b ∈ frs X.stack → ∃ sl, h2.get? b = some { o with slots := sl } := fun b o e hb => by
   obtain ⟨o', e', n⟩ := I.frOk b hb
   rw [e] at e'
   cases e'
   exact up b o (hx.keeps b o e) n
 have nT' : s.heap.get? T = none := by
   cases q : s.heap.get? T with
   | none => rfl
   | some o =>
     rw [W.hideAll_get _ q (th.offT fr2)] at nT
     cases nT
 refine ⟨T, ⟨fun b o e _ hb _ => keep b o e hb, fun b o e _ hb _ => slot b o e hb, fun b o e n _ => n, fun b o e _ => ?_, fun b xs q => q, fun b o u q => q, fun b ps q => ⟨#[], by rw [q]; simp⟩⟩, fun a o e => ?_, hx.new, nT', I.hok.off hx.new, I.hok.off nT', th⟩
 · by_cases hb : b ∈ frs X.stack
   · obtain ⟨sl, q⟩ := slot b o e hb
     exact ⟨_, q⟩
   · exact ⟨o, keep b o e hb⟩
 · refine (I.hok a o e).stay (fun b u hb q => keep b u q fun m => ?_) (fun _ q => q) fun _ _ q => q
   have z := I.stkFree b m
   rcases hb with hb | hb
   · rw [hb, e] at z
     cases z
   · rw [hb] at z
     cases z
theorem flung_on (F : Flung P w fs H H' h h1 ea T cls a0) (fr : FrOk fs h1) (ff : ∀ b ∈ fs, H' b = none) (st : (W.hideAll h1 (ea :: T :: fs)).StaysIn h2) (up : h1.UpToSlots h2)
   (tr : h2.TracedW (W.hideAll h1 (ea :: T :: fs)) ea cls a0) : ∃ T', Flung P w fs H H' h h2 ea T' cls a0 := by
 obtain ⟨T', nT', th⟩ := TC tr
 have fr2 : FrOk fs h2 := fr.up up
 have keep : ∀ b o, h1.get? b = some o → b ≠ ea → b ≠ T → b ∉ fs → h2.get? b = some o := fun b o e n1 n2 n3 => st b o (W.hideAll_get _ e fun m => by
   rcases List.mem_cons.mp m with z | m
   · exact n1 z
   · rcases List.mem_cons.mp m with z | m
     · exact n2 z
     · exact n3 m)
 have nE : ∀ b o, h.get? b = some o → b ≠ ea := fun b o e z => by rw [z, F.ne] at e; cases e
 have nTT : ∀ b o, h.get? b = some o → b ≠ T := fun b o e z => by rw [z, F.nT] at e; cases e
 have slot : ∀ b o, h1.get? b = some o → b ∈ fs → ∃ sl, h2.get? b = some { o with slots := sl } := fun b o e hb => by
   obtain ⟨o', e', n⟩ := fr b hb
   rw [e] at e'
   cases e'
   exact up b o e n
 have old : ∀ o, h1.get? T' = some o → T' = T := fun o e => by
   apply Classical.byContradiction
   intro n
   have ne : T' ≠ ea := by
     obtain ⟨_, _, _, _, _, _, _, _, h5, _⟩ := th
     exact h5
   rw [W.hideAll_get _ e (fun m => by
     rcases List.mem_cons.mp m with z | m
     · exact ne z
     · rcases List.mem_cons.mp m with z | m
       · exact n z
       · exact th.offT fr2 m)] at nT'
   cases nT'
 refine ⟨T', ⟨fun b o e n hb hx => keep b o (F.un.keep b o e n hb hx) (nE b o e) (nTT b o e) hb, fun b o e n hb hx => ?_, F.un.free, fun b o e hx => ?_, F.un.tups, F.un.frzs, F.un.tbls⟩, fun a o e => ?_, F.ne, ?_, F.fe, ?_, th⟩
 · obtain ⟨sl, e1⟩ := F.un.slot b o e n hb hx
   obtain ⟨sl', e2⟩ := slot b _ e1 hb
   exact ⟨sl', e2⟩
 · obtain ⟨o', e1⟩ := F.un.there b o e hx
   by_cases hb : b ∈ fs
   · obtain ⟨sl, q⟩ := slot b o' e1 hb
     exact ⟨_, q⟩
   · exact ⟨o', keep b o' e1 (nE b o e) (nTT b o e) hb⟩
 · have off : ∀ b, H' b ≠ none → b ≠ ea ∧ b ≠ T ∧ b ∉ fs := fun b n => ⟨fun z => n (by rw [z]; exact F.fe), fun z => n (by rw [z]; exact F.fT), fun z => n (ff b z)⟩
   refine (F.hok a o e).stay (fun b u hb q => ?_) (fun _ q => q) fun _ _ q => q
   have nb : H' b ≠ none := by
     rcases hb with hb | hb
     · rw [hb, e]
       intro z
       cases z
     · rw [hb]
       intro z
       cases z
   exact keep b u q (off b nb).1 (off b nb).2.1 (off b nb).2.2
 · cases q : h.get? T' with
   | none => rfl
   | some o =>
     obtain ⟨o', e1⟩ := F.un.there T' o q (by simp)
     have z := old o' e1
     rw [z, F.nT] at q
     cases q
 · cases q : H' T' with
   | none => rfl
   | some u =>
     obtain ⟨o', e1⟩ := (F.hok T' u q).there
     have z := old o' e1
     rw [z, F.fT] at q
     cases q
theorem Inv.flung (I : Inv X pins σ H s) (F : Flung X.prog X.w (frs X.stack) H H' s.heap s'.heap ea T cls a0) (ho : s'.os = s.os) (hb : AllBare s'.gens) : Inv X pins σ H' s' :=
 I.call' ho F.un F.hok hb fun b z => absurd z (by simp)
def CXe (P : Program) (w : World) : CXT := fun outer H s E e s' =>
 ∃ ea T cls a0 H', e = .ref ea ∧ s'.os = s.os ∧ AllBare s'.gens ∧ Flung P w (frs outer) H H' s.heap s'.heap ea T cls a0 ∧ E cls none H'
theorem CXe.no {outer : List Env} {e : Value} (h : CXe P w outer H s E0 e s') : False := by
 obtain ⟨_, _, _, _, _, _, _, _, _, q⟩ := h
 exact q
theorem Inv.hid (I : Inv X pins σ H s) {as : List Addr} (hs : ∀ b ∈ frs X.stack, b ∈ as) : s.heap.FunFrames (W.hideAll s.heap as) X.stack :=
 W.funFrames_hide I.stack fun env he a ha => hs a (List.mem_filterMap.mpr ⟨env, he, ha⟩)
theorem leave_flung {M : Model} {A : Around} {Q : Unit → Shared → Prop} {E' : Value → Shared → Prop} (I : Inv X pins σ H s) (hst : X.stack = X.env :: X.outer) (hfr : X.env.frame = some X.env.locals) (ho : s'.os = s.os) (hb : AllBare s'.gens)
   (F : Flung X.prog X.w (frs X.stack) H H' s.heap s'.heap ea T cls a0) (hA : A.frames = some X.stack)
   (k : ∀ h2 T', Flung X.prog X.w (frs X.stack) H H' s.heap h2 ea T' cls a0 → Q () { s' with heap := h2 }) : wpAny M A (leaving X.env (.ref ea)) Q E' s' := by
 have J := I.flung F ho hb
 refine wpAny_leaves_onW (base := W.hideAll s'.heap (ea :: T :: frs X.stack)) (L := X.env.locals) (by rw [hA, hst]) hfr ⟨fun b o e => W.of_hideAll _ e, W.hideAll_none _ (List.mem_cons_self), ?_, F.thr.traced (W.hideAll_none _ (by simp))⟩ fun h2 fl up => ?_
 · rw [← hst]
   exact J.hid fun b m => List.mem_cons_of_mem _ (List.mem_cons_of_mem _ m)
 · obtain ⟨a1, a2, a3, a4⟩ := fl
   obtain ⟨T', F'⟩ := flung_on F J.frOk J.stkFree a1 up a4
   exact k h2 T' F'
theorem leave_made {M : Model} {A : Around} {Q : Unit → Shared → Prop} {E' : Value → Shared → Prop} {tk : Nat} (I : Inv X pins σ H s) (hst : X.stack = X.env :: X.outer) (hfr : X.env.frame = some X.env.locals)
   (hx : Heap.MadeExcOf s.heap h1 ea cls vs) (hA : A.frames = some X.stack)
   (k : ∀ h2 T' a0, Flung X.prog X.w (frs X.stack) H H s.heap h2 ea T' cls a0 → Q () { s with heap := h2, toks := tk }) : wpAny M A (leaving X.env (.ref ea)) Q E' { s with heap := h1, toks := tk } := by
 refine wpAny_leaves_madeW (base := W.hideAll s.heap (frs X.stack)) (h := s.heap) (L := X.env.locals) (by rw [hA, hst]) hfr (fun b o e => W.of_hideAll _ e) ?_ hx fun h2 t fl tup nt up => ?_
 · rw [← hst]
   exact I.hid fun b m => m
 · obtain ⟨a1, a2, a3, a4⟩ := fl
   obtain ⟨T', F'⟩ := flung_made I hx a1 up a4
   exact k h2 T' _ F'
theorem cxe_of {E : XK} (I : Inv X pins σ H s) (hex : X.ex = []) (ho : s'.os = s.os) (hb : AllBare s'.gens) (F : Flung X.prog X.w (frs X.stack) H H' s.heap s'.heap ea T cls a0) (hE : E cls none H') :
   CXe X.prog X.w X.outer X.H₀ X.s₀ E (.ref ea) s' := by
 have J := I.flung F ho hb
 have new : ∀ b, s.heap.get? b = none → X.s₀.heap.get? b = none := fun b e => by
   cases q : X.s₀.heap.get? b with
   | none => rfl
   | some o =>
     obtain ⟨o', e'⟩ := I.base.there b o q (by rw [hex]; simp)
     rw [e] at e'
     cases e'
 have u := J.base
 rw [hex] at u
 exact ⟨ea, T, cls, a0, H', rfl, J.os, J.bare, ⟨u, J.hok, new ea F.ne, new T F.nT, F.fe, F.fT, F.thr⟩, hE⟩
end
section
variable {P : Program} {w : World} {K : W.Frag} {mg : Str → Option Value} {base : Heap} {N : List Str} {qual : Str} {scope : Scope} {f : Addr} {cd : Value} {A : Around} {outer : List Env} {s : Shared} {H : Hp} {E : XK}
theorem TK : XU (CXe P w) (cxOf (CXe P w) P w K mg base N qual scope f cd A outer s H E) E := by
 intro pins σ H1 s1 e s' I c
 obtain ⟨ea, T, cls, a0, H', rfl, ho, hb, F, hE⟩ := c
 exact leave_flung (E' := fun e' s'' => CXe P w outer H s E e' s'') I rfl rfl ho hb F I.ok.frames fun h2 T' F' => cxe_of (s' := { s' with heap := h2 }) I rfl ho hb F' hE
theorem ZC {X : Cx} : XU (CXe P w) X E0 := fun _ _ _ _ _ _ _ h => (CXe.no h).elim
end
def Rz (X : Cx) (E : XK) : Prop := ∀ (pins : List (Addr × Obj)) (σ : St) (H : Hp) (s : Shared) (h1 : Heap) (ea : Addr) (cls : Value) (vs : List Value) (tk : Nat), Inv X pins σ H s → Heap.MadeExcOf s.heap h1 ea cls vs → E cls none H → X.xe (.ref ea) { s with heap := h1, toks := tk }
theorem rz_fn {P : Program} {w : World} {K : W.Frag} {mg : Str → Option Value} {base : Heap} {N : List Str} {qual : Str} {scope : Scope} {f : Addr} {cd : Value} {A : Around} {outer : List Env} {s : Shared} {H : Hp} {E : XK} :
   Rz (cxOf (CXe P w) P w K mg base N qual scope f cd A outer s H E) E := by
 intro pins σ H1 s1 h1 ea cls vs tk I hx hE
 exact leave_made (E' := fun e' s'' => CXe P w outer H s E e' s'') I rfl rfl hx I.ok.frames fun h2 T' a0 F' => cxe_of (s' := { s1 with heap := h2, toks := tk }) I rfl rfl I.bare F' hE
def bmV : List Value := [.type "ValueError", .type "Exception", .type "BaseException", .type "object"]
theorem exc_obj {K : W.Frag} {h : Heap} {C : Addr} {bmB : List Value} {newId : String} (x : K.In h) (q : W.excIn K C bmB newId = true) :
   ∃ bm N nm qn bs hdct sn sub ab col dd k0 k1 k2 k3 k5 mN, h.get? C = some (excClassObj nm qn C N bs bm hdct sn sub ab col dd k0 k1 k2 k3 k5 newId) ∧ h.Ns N mN ∧ mN "__init__" = none ∧ OwnTail h bmB bm := by
 unfold W.excIn at q
 split at q
 · rename_i dd cd sl look
   split at q
   · rename_i C' tl y0 y1 y2 y3 nn y5 em es
     simp only [Bool.and_eq_true, beq_iff_eq, Bool.not_eq_true'] at q
     obtain ⟨⟨⟨⟨⟨rfl, rfl⟩, nodel⟩, tail⟩, okn⟩, noinit⟩ := q
     obtain ⟨nm, bs, mro, ns, qn, hdct, sn, sub, ab, col, del⟩ := cd
     dsimp only at em nodel okn noinit
     subst em nodel
     have slots : sl = #[y0, y1, y2, y3, some (.builtin nn), y5] := by
       obtain ⟨l⟩ := sl
       simp only at es
       rw [es]
     subst slots
     exact ⟨tl, ns, nm, qn, bs, hdct, sn, sub, ab, col, dd, y0, y1, y2, y3, y5, _, x _ _ look, .of_isNs (W.isNs_of_in x okn), W.nsMap_none_of_in x okn noinit, W.tail_of_in x tail⟩
   · cases q
 · cases q
def tRaise (E : XK) (C : Addr) (t : TA) : TS := fun _ σ H => t σ H fun vs H1 => vs.length ≤ sizeLine ∧ E (.ref C) none H1
theorem XD {X : Cx} {E : XK} {x : Str} {C : Addr} {np cpos pos : Pos} {e : Expr} {es : List Expr} {t : TA} (hz : Rz X E) (hc : X.calm = true) (hg : Gl X x) (hm : X.mg x = some (.ref C)) (hq : W.excIn X.K C bmV "ValueError.__new__" = true)
   (ha : PA X (e :: es) t) (hdb : (x == ("__debug__" : Str)) = false := by decide) (he : starEach (e :: es) X.env = (false, eval e X.env) :: starEach es X.env := by rfl) (hpl : (backTo cpos (starEach es X.env)).any (·.1) = false := by rfl) :
   PS X (.Raise (some (.Call (.Name x np) (e :: es) [] cpos)) none pos) (tRaise E C t) := by
 intro pins s σ H D I h
 have O := fun (hp : Heap) (k : X.K.In hp) => exc_obj k hq
 obtain ⟨tl, N, nm, q, bs, hdct, sn, sub, ab, col, dd, k0, k1, k2, k3, k5, mN, hC, hN, hni, T⟩ := O X.base I.ok.mod.kin
 refine wpAny_Raise_call_subT (C := C) (nm := nm) (q := q) (N := N) (bs := bs) (bm := tl) (hdct := hdct) (sn := sn) (sub := sub) (ab := ab) (col := col) (dd := dd) (k0 := k0) (k1 := k1) (k2 := k2) (k3 := k3) (k5 := k5) (mN := mN)
   F.excBase_ValueError (T.hasType F.excBase_ValueError.hasBase) (I.ok.hd hc) (by rw [he]; show (false || (backTo cpos (starEach es X.env)).any (·.1)) = false; rw [hpl]; rfl) hni (Ut I hg hm ⟨rfl, ?_⟩ hdb)
 have ha' := ha cpos pins s σ H _ I h
 rw [he] at ha' ⊢
 refine Calls.evalArgs_plain (thn ha' fun us s1 ⟨vs, H1, I1, r, hl, hE⟩ => ⟨rfl, ?_, I1.bk _ _ hC, hN.keeps I1.bk, T.keeps I1.bk, fun h' ea hmade => ?_⟩)
 · show us.length ≤ sizeLine
   rw [← r.length]
   exact hl
 · exact hz pins σ H1 s1 h' ea _ _ s1.toks I1 hmade hE
section
variable {P : Program} {w : World} {K : W.Frag} {mg : Str → Option Value} {base : Heap}
theorem Fun.okE {x qual : Str} {st : Stmt} {f : Addr} {fd : FuncData} {N ps : List Str} {k : Nat} {sp : Sp} (F : Fun K x qual st f fd) (S : FnScope N ps (Ze st)) (len : ∀ vs H Q E, sp vs H Q E → vs.length = ps.length)
   (hbody : ∀ (cdv : Value) (A : Around) (outer : List Env) (s : Shared) (H : Hp) (vs : List V) (Q : VK) (E : XK), Room k (A.deeper (envOfC qual (Ze st) s.heap.objs.size f cdv)) → sp vs H Q E →
     ∃ t, PSs (cxOf (CXe P w) P w K mg base N qual (Ze st) f cdv A outer s H E) (Zn st) t ∧ t { nx := fun _ H' => Q .non H', rt := Q } (start N vs) H) : FnOk P w K mg base (CXe P w) (k + 1) f fd ps sp := by
 obtain ⟨oc, od, kV, doc, pm, an, cdv, ct, osl, rfl, lk, hcd⟩ := F.ex
 refine fn_of lk hcd S len fun A outer s H vs Q E hr hsp => ?_
 exact hbody cdv A outer s H vs Q E hr hsp
theorem Fun.okN {x qual : Str} {st : Stmt} {f : Addr} {fd : FuncData} {N ps : List Str} {k : Nat} {sp : Sp} (F : Fun K x qual st f fd) (S : FnScope N ps (Ze st)) (len : ∀ vs H Q E, sp vs H Q E → vs.length = ps.length)
   (hbody : ∀ (cdv : Value) (A : Around) (outer : List Env) (s : Shared) (H : Hp) (vs : List V) (Q : VK) (E : XK), Room k (A.deeper (envOfC qual (Ze st) s.heap.objs.size f cdv)) → sp vs H Q E →
     ∃ t, PSs (cxOf (CXe P w) P w K mg base N qual (Ze st) f cdv A outer s H E).nox (Zn st) t ∧ t { nx := fun _ H' => Q .non H', rt := Q } (start N vs) H) : FnOk P w K mg base (CXe P w) (k + 1) f fd ps sp :=
 F.okE S len fun cdv A outer s H vs Q E hr hsp => by
   obtain ⟨t, h, q⟩ := hbody cdv A outer s H vs Q E hr hsp
   exact ⟨t, h.nox, q⟩
end
theorem PS.nox {X : Cx} {st : Stmt} {t : TS} (h : PS X.nox st t) : PS X st t := fun pins s σ H D I hw =>
 wpAny_mono (h pins s σ H D (I.wish _) hw) (fun f s' q => q.unwish) fun _ _ z => z.elim
section
variable {X : Cx} {k : Nat} {f C : Addr} {fd : FuncData} {ps : List Str} {sp : Sp} {dvs : List V} {ds : List Value} {x m : Str} {p pos apos : Pos} {e o : Expr} {es : List Expr} {ta : TE} {t : TA}
end
section
variable {X : Cx} {pos : Pos}
end
end L2
end
section
namespace L2
open PySem PySem.Spec PyProof.Rows
section
variable {X : Cx} {pins : List (Addr × Obj)} {σ : St} {H H' : Hp} {s s' : Shared} {h h1 h2 : Heap} {ea T : Addr} {cls a0 : Value} {fs : List Addr} {P : Program} {w : World}
end
structure Ctch (K : W.Frag) (Tc : Addr) : Prop where
 notup : W.instIn K (.ref Tc) (.type "tuple") = some false
 cls : (W.clsIn K Tc).isSome = true
 exc : W.subIn K (.ref Tc) (.type "BaseException") = some true
end L2
end
section
namespace L2
open PySem PySem.Spec PyProof.Rows
theorem Inv.track {X : Cx} {pins : List (Addr × Obj)} {σ : St} {H : Hp} {s : Shared} {a : Addr} {o : HO} (I : Inv X pins σ H s) (n : H a = none) (h1 : a ∈ X.ex ∨ X.s₀.heap.objs.size ≤ a) (hL : a ≠ X.env.locals)
   (h2 : ∀ x c, X.env.cells.lookup x = some c → c ≠ a) (h3 : ∀ p ∈ X.pn ++ pins, p.1 ≠ a) (new : ObjOk X.prog X.w (upd H a o) s.heap a o) : Inv X pins σ (upd H a o) s := by
 have nb : ∀ b u, H b = some u → b ≠ a := fun b u q z => by rw [z, n] at q; cases q
 refine I.step (g' := s.gens) (d' := s.drawn) (t' := s.toks) (h' := s.heap) (ch := [a]) (fun b hb => ?_) (fun b o _ _ _ e _ => e) (fun b o _ _ _ e _ => ⟨o.slots, e⟩) (fun b o hc e z => ?_) (fun b o _ e => ⟨o, e⟩)
   (fun b xs q => ?_) (fun b o u q => ?_) (fun b ps q => ⟨#[], ?_⟩) (fun m hm => hm) (fun b u q => ?_) I.bare
 · have e : b = a := by simpa using hb
   subst e
   exact ⟨h1, hL, h2, h3⟩
 · rw [Zc (by simpa using hc)]
   exact z
 · rw [Zc (nb b _ q)]
   exact q
 · rw [Zc (nb b _ q)]
   exact q
 · rw [Zc (nb b _ q), q]
   simp
 · by_cases hb : b = a
   · subst hb
     rw [Zb] at q
     cases q
     exact new
   · rw [Zc hb] at q
     exact (I.hok b u q).stay (fun _ _ _ z => z) (fun c z => by rw [Zc (nb c _ z)]; exact z) fun c xs z => by rw [Zc (nb c _ z)]; exact z
def XS (X : Cx) (NB : List Str) (scope : Scope) (cl : List (Str × Addr)) (s0 : Shared) (H0 : Hp) (ex : List Addr) : Cx :=
 { X with N := NB, s₀ := s0, H₀ := H0, env := compEnvC scope cl s0.heap.objs.size X.env, outer := X.stack, ex := ex, fn := fun _ => false, pn := [], xe := fun _ _ => False }
structure CompOk (X : Cx) (scope : Scope) (cl : List (Str × Addr)) (NB : List Str) (fv : List (Option Nat)) : Prop where
 clos : closureFor scope X.env = pure cl
 kind : scope.kind = .function
 nocell : ∀ y ∈ scope.names, y.2 ≠ .cell
 names : ∀ y ∈ scope.names, y.2 = .local → scope.names.lookup y.1 = some .local
 nd : NB.Nodup
 len : fv.length = NB.length
 sub : ∀ x c, cl.lookup x = some c → X.env.cells.lookup x = some c
 has : ∀ x, ((relabel scope X.env).names.lookup x = some .cell ∨ (relabel scope X.env).names.lookup x = some .free) → ∃ c, cl.lookup x = some c
 free : ∀ (i : Nat) x j, NB[i]? = some x → fv[i]? = some (some j) → X.N[j]? = some x ∧ Vis X.env.scope x ∧ X.env.kindOf x ≠ some .local ∧ (∃ c, cl.lookup x = some c) ∧
   ((relabel scope X.env).names.lookup x = some .cell ∨ (relabel scope X.env).names.lookup x = some .free)
def blk (fv : List (Option Nat)) (σ : St) : St := fv.map fun o => o.bind fun j => (σ[j]?).join
theorem blk_at {fv : List (Option Nat)} {σ : St} {i : Nat} {v : V} (h : (blk fv σ)[i]? = some (some v)) : ∃ j, fv[i]? = some (some j) ∧ σ[j]? = some (some v) := by
 unfold blk at h
 rw [List.getElem?_map] at h
 cases e : fv[i]? with
 | none => rw [e] at h; cases h
 | some o =>
   rw [e] at h
   cases o with
   | none => cases h
   | some j =>
     have h' : (σ[j]?).join = some v := Option.some.inj h
     cases q : σ[j]? with
     | none => rw [q] at h'; cases h'
     | some z =>
       rw [q] at h'
       have h'' : z = some v := h'
       exact ⟨j, rfl, by rw [q, h'']⟩
theorem blk_none {fv : List (Option Nat)} {σ : St} {i : Nat} (h : fv[i]? = some none) : (blk fv σ)[i]? = some none := by
 unfold blk
 rw [List.getElem?_map, h]
 rfl
theorem blk_len {fv : List (Option Nat)} {σ : St} : (blk fv σ).length = fv.length := by
 unfold blk
 rw [List.length_map]
def PIfs (X : Cx) (ifs : List Expr) (t : TT) : Prop :=
 ∀ (pins : List (Addr × Obj)) (s : Shared) (σ : St) (H : Hp) (Q : Bool → Hp → Prop), Inv X pins σ H s → t σ H Q →
   wpAny (model X.prog X.w) X.A (forIn ifs true fun c r => if r = true then do let ok ← isTrue c X.env (eval c X.env); pure (ForInStep.yield ok) else pure (ForInStep.yield r)) (TP X pins σ Q) X.xe s
theorem UR {X : Cx} : PIfs X [] (fun _ H Q => Q true H) := fun _ _ _ H _ I h => wpAny_tests_nil ⟨H, I, h⟩
theorem pifs_one {X : Cx} {c : Expr} {t : TT} (h : PT X c t) : PIfs X [c] t := fun pins s σ H Q I hw => wpAny_tests_one (h pins s σ H Q I hw)
section
variable {X : Cx} {pins : List (Addr × Obj)} {σ : St} {H : Hp} {s : Shared} {scope : Scope} {cl : List (Str × Addr)} {NB : List Str} {fv : List (Option Nat)} {ex : List Addr}
theorem comp_start {h1 : Heap} {tk : Nat} (I : Inv X pins σ H s) (O : CompOk X scope cl NB fv) (hex : ∀ b ∈ ex, b < s.heap.objs.size ∧ b ≠ X.env.locals ∧ b ∉ X.fs ∧ (∀ x c, X.env.cells.lookup x = some c → c ≠ b) ∧ H b = none ∧ ∀ o, X.base.get? b ≠ some o)
   (hns : h1.Ns s.heap.objs.size (fun x => (([] : List (Str × Value)).reverse).lookup x)) (old : ∀ b o, s.heap.get? b = some o → h1.get? b = some o) : Inv (XS X NB scope cl s H ex) [] (blk fv σ) H { s with heap := h1, toks := tk } := by
 have hC : H s.heap.objs.size = none := I.hok.fresh (Nat.le_refl _)
 refine ⟨⟨I.ok.mod, ?_, I.ok.glob, I.ok.blt, Nat.le_refl _, fun x y c e1 e2 => I.ok.inj x y c (O.sub x c e1) (O.sub y c e2), fun x hx => O.has x hx, fun x c z => (Bool.noConfusion z), I.ok.hd, I.ok.frames, .inl rfl, fun b hb => ⟨Nat.ne_of_lt (hex b hb).1, fun x c e => (hex b hb).2.2.2.1 x c (O.sub x c e)⟩, I.bs, Nat.le_trans I.ok.bsz I.sz,
   fun b o e hb => (hex b hb).2.2.2.2.2 o e, fun b hb m => ?_, I.stack, I.stkFree⟩, rfl, I.bare, Un.kept old, ⟨_, hns, fun i x v e1 e2 e3 => ?_⟩, fun x c e => ?_, hC, fun x c e => I.freeC x c (O.sub x c e), fun p hp => absurd (show p ∈ ([] : List (Addr × Obj)) from hp) (by simp), I.hok.kept old, by rw [blk_len]; exact O.len⟩
 · exact O.kind
 · rcases List.mem_cons.mp (I.stkSub b m) with z | z
   · exact (hex b hb).2.1 z
   · exact (hex b hb).2.2.1 z
 · obtain ⟨j, f1, f2⟩ := blk_at e2
   obtain ⟨n1, n2, n3, ⟨c, n4⟩, n5⟩ := O.free i x j e1 f1
   obtain ⟨m, hn, look⟩ := I.loc
   obtain ⟨u, r, l⟩ := look j x v n1 f2 n2
   refine ⟨u, r, .inr ⟨n5, c, n4, ?_⟩⟩
   rcases l with ⟨z, _⟩ | ⟨_, c', e, z⟩
   · exact absurd z n3
   · rw [O.sub x c n4] at e
     cases e
     obtain ⟨oc, hoc, hd⟩ := z
     exact ⟨oc, old c oc hoc, hd⟩
 · obtain ⟨v, oc, hoc, hd⟩ := I.cell x c (O.sub x c e)
   exact ⟨v, oc, old c oc hoc, hd⟩
variable {x : Str} {px pos : Pos} {elt iter : Expr} {ifs : List Expr} {jx : Nat} {tc : TT} {te : TE} {J : It} {fp : List Addr} {it : Addr} {tn : Nat → Heap → Prop}
structure Off (X : Cx) (pins : List (Addr × Obj)) (a : Addr) : Prop where
 new : X.s₀.heap.objs.size ≤ a
 loc : a ≠ X.env.locals
 cell : ∀ x c, X.env.cells.lookup x = some c → c ≠ a
 pin : ∀ p ∈ X.pn ++ pins, p.1 ≠ a
 fs : a ∉ X.fs
theorem Inv.offNew {a : Addr} (I : Inv X pins σ H s) (h : s.heap.objs.size ≤ a) : Off X pins a := by
 obtain ⟨_, f1, f2, f3, f4, f5⟩ := I.fpOk (H' := fun _ => none) h rfl
 exact ⟨Nat.le_trans I.sz h, f1, f4, f5, f2⟩
theorem Inv.touch {C : Addr} {h'' : Heap} {tk : Nat} (I : Inv X pins σ H s) (n : H C = none) (o : Off X pins C) (sb : Heap.SameBut C s.heap h'') : Inv X pins σ H { s with heap := h'', toks := tk } :=
 I.turned (it := C) (fun b ob hb e => (sb.2 b hb).trans e) n o.loc (.inr o.new) o.cell o.pin
theorem comp_core {W : Nat → Nat → List V → Hp → Prop} {Fin : List V → Hp → Prop} {RR : Value → Addr → Result → Shared → Prop} (I : Inv X pins σ H s) (T : Turn X.prog X.w X.K (.Name x px) J fp it tn) (st : tn 0 s.heap) (hf : ∀ b ∈ fp, FpOk X pins H b) (hc : X.calm = true)
   (O : CompOk X scope cl NB fv) (hx : scope.names.lookup x = some .local) (hjx : NB[jx]? = some x) (hfx : fv[jx]? = some none) (hC : ∀ s0 H0 ex, PIfs (XS X NB scope cl s0 H0 ex) ifs tc) (hE : ∀ s0 H0 ex, PE (XS X NB scope cl s0 H0 ex) elt te)
   (w0 : ∃ m, W 0 m [] H)
   (turn : ∀ i m ys H, W i m ys H → ys.length < sizeLine ∧ ((J.stop i H ∧ Fin ys H) ∨ (J.go i H ∧ ∀ v H', J.yld i H v H' → tc ((blk fv σ).set jx (some v)) H' fun b H2 => if b = true then te ((blk fv σ).set jx (some v)) H2 fun y H3 => ∃ m', m' < m ∧ W (i + 1) m' (ys ++ [y]) H3 else ∃ m', m' < m ∧ W (i + 1) m' ys H2)))
   (hRR : ∀ acc C s' H' ys m, H' acc = none → Inv X pins σ (upd H' acc (.lst ys)) s' → s'.heap.Ns C m → Off X pins C → upd H' acc (.lst ys) C = none → Fin ys H' → RR (.ref acc) C (.ok .next) s') {E : Value → Shared → Prop} :
   wpAny (model X.prog X.w) X.A (newList []) (fun acc s3 => wpAny (model X.prog X.w) X.A (newFunctionEnv scope X.env.globals cl [] X.env.qual none .none (some X.env)) (fun cenv s4 =>
     codeAny (model X.prog X.w) X.A (.compStart (.ListComp elt [⟨.Name x px, iter, ifs, 0⟩] scope pos) 0 (.ref it) acc { cenv with scope := relabel scope X.env }) (RR acc cenv.locals) s4) E s3) E s := by
 obtain ⟨m0, w0⟩ := w0
 refine wpAny_newList (wpAny_newFunctionEnv O.nocell (by intro y hy; simp at hy) (fun h1 hns hsb => ?_) O.kind)
 dsimp only at hns hsb ⊢
 generalize hs3 : ({ s with heap := s.heap.push { cls := .type "list", data := .seq ([] : List Value).toArray } } : Shared) = s3
 have e3 : s3.heap = s.heap.push { cls := .type "list", data := .seq ([] : List Value).toArray } := by rw [← hs3]
 have I3 : Inv X pins σ H s3 := by
   rw [← hs3]
   exact I.kept (t' := s.toks) fun b o e => Heap.get?_push_of_some _ e
 have sz3 : s3.heap.objs.size = s.heap.objs.size + 1 := by rw [e3, Heap.size_push]
 have nacc : H s.heap.objs.size = none := I.hok.fresh (Nat.le_refl _)
 have offA := I.offNew (a := s.heap.objs.size) (Nat.le_refl _)
 have tn3 : tn 0 s3.heap := T.keep 0 s.heap s3.heap st fun b _ o e => by rw [e3]; exact Heap.get?_push_of_some _ e
 have lt : ∀ b ∈ fp, b < s.heap.objs.size := fun b hb => by
   obtain ⟨o, e, _⟩ := T.obj 0 s.heap st b hb
   exact Heap.lt_size e
 have nofs : ∀ b, b ≠ X.env.locals → b ∉ X.fs → b ∉ frs X.stack := fun b h1 h2 m => by
   rcases List.mem_cons.mp (I.stkSub b m) with z | z
   · exact h1 z
   · exact h2 z
 have nobase : ∀ b, (b ∈ X.ex ∨ X.s₀.heap.objs.size ≤ b) → ∀ o, X.base.get? b ≠ some o := fun b hb o e => by
   rcases hb with z | z
   · exact I.ok.noex b o e z
   · exact absurd (Nat.lt_of_lt_of_le (Heap.lt_size (I.ok.bs b o e).1) z) (Nat.lt_irrefl _)
 have IY0 := comp_start (ex := s.heap.objs.size :: fp) (h1 := h1) (tk := s.toks + ([] : List (Str × Value)).length) I3 O (fun b hb => by
   rcases List.mem_cons.mp hb with z | hb
   · rw [z]
     exact ⟨by rw [sz3]; exact Nat.lt_succ_self _, offA.loc, offA.fs, offA.cell, nacc, nobase _ (.inr offA.new)⟩
   · obtain ⟨f0, f1, f2, f3, f4, f5⟩ := hf b hb
     exact ⟨by rw [sz3]; exact Nat.lt_succ_of_lt (lt b hb), f1, f2, f4, f0, nobase b f3⟩) (by rw [e3]; exact hns) (fun b o e => by
   rw [e3] at e
   exact hsb.extBut b o (Nat.ne_of_lt (Heap.lt_size e)) (Heap.get?_push_of_some _ e))
 generalize hY : XS X NB scope cl s3 H (s.heap.objs.size :: fp) = Y at IY0
 have hCY : PIfs Y ifs tc := hY ▸ hC s3 H _
 have hEY : PE Y elt te := hY ▸ hE s3 H _
 have yP : Y.prog = X.prog := by rw [← hY]; rfl
 have yw : Y.w = X.w := by rw [← hY]; rfl
 have yK : Y.K = X.K := by rw [← hY]; rfl
 have yA : Y.A = X.A := by rw [← hY]; rfl
 have yc : Y.calm = true := by rw [← hY]; exact hc
 have yN : Y.N = NB := by rw [← hY]; rfl
 have yenv : Y.env = compEnvC scope cl s3.heap.objs.size X.env := by rw [← hY]; rfl
 have yfs : Y.fs = frs X.stack := by rw [← hY]; rfl
 have yex : Y.ex = s.heap.objs.size :: fp := by rw [← hY]; rfl
 have ypn : Y.pn = [] := by rw [← hY]; rfl
 have yxe : Y.xe = fun _ _ => False := by rw [← hY]; rfl
 have ys0 : Y.s₀ = s3 := by rw [← hY]; rfl
 have yH0 : Y.H₀ = H := by rw [← hY]; rfl
 have yloc : Y.env.locals = s3.heap.objs.size := by rw [yenv]; rfl
 have ycell : ∀ z c, Y.env.cells.lookup z = some c → X.env.cells.lookup z = some c := fun z c e => by
   rw [yenv] at e
   exact O.sub z c e
 have yx : Y.env.scope.names.lookup x = some .local := by
   rw [yenv]
   exact lookup_relabel_local hx
 have accA : ∀ z c, Y.env.cells.lookup z = some c → c ≠ s.heap.objs.size := fun z c e => offA.cell z c (ycell z c e)
 have accL : s.heap.objs.size ≠ Y.env.locals := by rw [yloc, sz3]; exact Nat.ne_of_lt (Nat.lt_succ_self _)
 have fpY : ∀ {H' : Hp} {o : Obj} {pl : List (Addr × Obj)}, (∀ p ∈ pl, p.1 = s.heap.objs.size) → (∀ b ∈ fp, H' b = none) → ∀ b ∈ fp, FpOk Y pl H' b := fun {H' o pl} hpl hn b hb => by
   obtain ⟨f0, f1, f2, f3, f4, f5⟩ := hf b hb
   refine ⟨hn b hb, ?_, ?_, .inl ?_, fun z c e => f4 z c (ycell z c e), fun p hp => ?_⟩
   · rw [yloc, sz3]
     exact Nat.ne_of_lt (Nat.lt_succ_of_lt (lt b hb))
   · rw [yfs]
     exact nofs b f1 f2
   · rw [yex]
     exact List.mem_cons_of_mem _ hb
   · rw [ypn] at hp
     rw [hpl p hp]
     exact Ne.symm (Nat.ne_of_lt (lt b hb))
 have T' : Turn Y.prog Y.w Y.K (.Name x px) J fp it tn := by rw [yP, yw, yK]; exact T
 have loop : ∀ s4 : Shared, Inv Y [] (blk fv σ) H s4 → tn 0 s4.heap → s4.heap.get? s.heap.objs.size = some { cls := .type "list", data := .seq ([] : List Value).toArray } →
     codeAny (model X.prog X.w) X.A (.compLoop (.ListComp elt [⟨.Name x px, iter, ifs, 0⟩] scope pos) 0 (.ref it) (.ref s.heap.objs.size) (compEnvC scope cl s3.heap.objs.size X.env)) (RR (.ref s.heap.objs.size) s3.heap.objs.size) s4 := by
   intro s4 I4 t4 a4
   rw [← yenv, ← yP, ← yw, ← yA]
   refine codeAny_compLoop_tests (fun k s' => ∃ i ys H' its n, Inv Y [] (blk fv σ) H' s' ∧ tn i s'.heap ∧ (∀ b ∈ fp, H' b = none) ∧ H' s.heap.objs.size = none ∧ s'.heap.get? s.heap.objs.size = some { cls := .type "list", data := .seq (its : List Value).toArray n } ∧ Vals ys its ∧ W i k ys H') ?_ m0
     ⟨0, [], H, [], _, I4, t4, fun b hb => (hf b hb).1, nacc, a4, .nil, w0⟩
   rintro k s5 ⟨i, ys, H5, its, n, I5, t5, f5, n5, a5, v5, w5⟩
   obtain ⟨hlen, hturn⟩ := turn i k ys H5 w5
   have pinA : ∀ p ∈ [(s.heap.objs.size, ({ cls := .type "list", data := .seq (its : List Value).toArray n } : Obj))], s5.heap.get? p.1 = some p.2 ∧ H5 p.1 = none ∧ p.1 ≠ Y.env.locals ∧ p.1 ∉ Y.fs ∧ ∀ v, p.2.data ≠ .cell v := fun p hp => by
     have e := List.mem_singleton.mp hp
     subst e
     refine ⟨a5, n5, accL, ?_, fun v z => by cases z⟩
     rw [yfs]
     exact nofs _ offA.loc offA.fs
   have I5p := I5.pins_of pinA
   have fpo := fpY (H' := H5) (o := { cls := .type "list", data := .seq (its : List Value).toArray n }) (pl := [(s.heap.objs.size, ({ cls := .type "list", data := .seq (its : List Value).toArray n } : Obj))]) (fun p hp => by rw [List.mem_singleton.mp hp]) f5
   rcases hturn with ⟨stop, fin⟩ | ⟨go, step⟩
   · refine thn (T'.done Y rfl rfl rfl yc i _ s5 (blk fv σ) H5 _ I5p fpo t5 stop) fun r s6 ⟨hr, I6⟩ => ?_
     subst hr
     have a6 := (I6.pin (s.heap.objs.size, _) (by rw [ypn]; exact List.mem_singleton.mpr rfl)).1
     have u6 := I6.base
     rw [yfs, yex, yH0, ys0] at u6
     have hok6 := I6.hok
     rw [yP, yw] at hok6
     have os6 := I6.os
     rw [ys0] at os6
     have I7 : Inv X pins σ H5 s6 := I3.call' os6 u6 hok6 I6.bare fun b hb => by
       rcases List.mem_cons.mp hb with z | hb
       · rw [z]
         exact ⟨.inr offA.new, offA.loc, offA.cell, offA.pin⟩
       · obtain ⟨f0, f1, f2, f3, f4, f5⟩ := hf b hb
         exact ⟨f3, f1, f4, f5⟩
     have I8 : Inv X pins σ (upd H5 s.heap.objs.size (.lst ys)) s6 := I7.track n5 (.inr offA.new) offA.loc offA.cell offA.pin ⟨Nat.le_of_lt hlen, its, n, v5, a6⟩
     obtain ⟨mC, hnC, _⟩ := I6.loc
     rw [yloc] at hnC
     have offC := I3.offNew (a := s3.heap.objs.size) (Nat.le_refl _)
     refine hRR s.heap.objs.size s3.heap.objs.size s6 H5 ys mC n5 I8 hnC offC ?_ fin
     rw [Zc (by rw [sz3]; exact Nat.succ_ne_self _), ← yloc]
     exact I6.free
   · refine thn (T'.item Y rfl rfl rfl yc i _ s5 (blk fv σ) H5 _ I5p fpo t5 go) fun r s6 ⟨u, hr, h6⟩ => ?_
     subst hr
     show wpAny _ _ (letOwnedTupleGo (.Name x px) (.ref it) u >>= fun _ => assign (.Name x px) Y.env u) _ _ s6
     refine wpAny_bind (thn h6 fun _ s7 ⟨v, H7, I7, r7, y7, t7, f7⟩ => ?_)
     have fpo7 := fpY (H' := H7) (o := { cls := .type "list", data := .seq (its : List Value).toArray n }) (pl := [(s.heap.objs.size, ({ cls := .type "list", data := .seq (its : List Value).toArray n } : Obj))]) (fun p hp => by rw [List.mem_singleton.mp hp]) f7
     have I7p := I7.pinned fpo7 (T'.obj _ _ t7)
     refine wpAny_assign_Name (UF I7p (by rw [yN]; exact O.nd) (by rw [yN]; exact hjx) (.inl yx) r7 (fun s8 I8 => ?_) (.inr yx))
     have bad : ∀ (e : Value) (s' : Shared), Y.xe e s' → notedBy (model Y.prog Y.w) Y.A Y.env (fun e s' => RR (.ref s.heap.objs.size) s3.heap.objs.size (.error e) s') e s' := fun e s' z => by
       rw [yxe] at z
       exact z.elim
     have after : ∀ {ys' : List V} {its' : List Value} {n' : Nat} {pl : List (Addr × Obj)} {H9 : Hp} {s9 : Shared}, Inv Y pl ((blk fv σ).set jx (some v)) H9 s9 → (∀ p ∈ Vm fp s7.heap, p ∈ pl) → H9 s.heap.objs.size = none →
         s9.heap.get? s.heap.objs.size = some { cls := .type "list", data := .seq (its' : List Value).toArray n' } → Vals ys' its' → (∃ m', m' < k ∧ W (i + 1) m' ys' H9) → ∃ m', m' < k ∧ ∃ i ys H' its n, Inv Y [] (blk fv σ) H' s9 ∧ tn i s9.heap ∧ (∀ b ∈ fp, H' b = none) ∧ H' s.heap.objs.size = none ∧ s9.heap.get? s.heap.objs.size = some { cls := .type "list", data := .seq (its : List Value).toArray n } ∧ Vals ys its ∧ W i m' ys H' := fun {ys' its' n' pl H9 s9} I9 hp9 n9 a9 v9 w9 => by
       obtain ⟨m', hm, w9⟩ := w9
       have pinned : ∀ b ∈ fp, ∀ o, s7.heap.get? b = some o → s9.heap.get? b = some o ∧ H9 b = none := fun b hb o e => by
         have z := I9.pin (b, o) (List.mem_append_right _ (hp9 _ (Vp hb e)))
         exact ⟨z.1, z.2.1⟩
       refine ⟨m', hm, i + 1, ys', H9, its', n', (I9.pins_of (pins' := []) fun p hp => absurd hp (by simp)).weak (by simp) (fun a z e => ?_), T'.keep _ _ _ t7 fun b hb o e => (pinned b hb o e).1, fun b hb => ?_, n9, a9, v9, w9⟩
       · by_cases ha : jx = a
         · subst ha
           rw [blk_none hfx] at e
           cases e
         · rw [List.getElem?_set_ne ha]
           exact e
       · obtain ⟨o, e, _⟩ := T'.obj _ _ t7 b hb
         exact (pinned b hb o e).2
     have inA : ∀ {H9 : Hp} {σ9 : St} {s9 : Shared}, Inv Y ([(s.heap.objs.size, ({ cls := .type "list", data := .seq (its : List Value).toArray n } : Obj))] ++ Vm fp s7.heap) σ9 H9 s9 → s9.heap.get? s.heap.objs.size = some { cls := .type "list", data := .seq (its : List Value).toArray n } ∧ H9 s.heap.objs.size = none := fun I9 => by
       have z := I9.pin (s.heap.objs.size, _) (List.mem_append_right _ (List.mem_append_left _ (List.mem_singleton.mpr rfl)))
       exact ⟨z.1, z.2.1⟩
     refine wpAny_mono (hCY _ s8 _ H7 _ I8 (step v H7 y7)) (fun ok s9 ⟨H9, I9, q9⟩ => ?_) bad
     cases ok with
     | false =>
       exact after I9 (fun p hp => List.mem_append_right _ hp) (inA I9).2 (inA I9).1 v5 (by simpa using q9)
     | true =>
       rw [if_pos rfl] at q9
       refine wpAny_mono (hEY _ s9 _ H9 _ I9 q9) (fun u10 s10 ⟨y, H10, I10, r10, q10⟩ => ?_) bad
       refine append_at (inA I10).1 (fun h' sb ha => ?_) (by rw [List.size_toArray, ← v5.length]; exact Nat.le_of_lt hlen)
       have I11 := (I10.pins_of (pins' := Vm fp s7.heap) fun p hp => I10.pin p (List.mem_append_right _ (List.mem_append_right _ hp))).turned (it := s.heap.objs.size) (h' := h') (t' := s10.toks) (fun b o hb e => (sb.2 b hb).trans e) (inA I10).2 accL (.inl (by rw [yex]; exact List.mem_cons_self)) accA (fun p hp => by
         rw [ypn] at hp
         obtain ⟨hb, _⟩ := TL hp
         exact Nat.ne_of_lt (lt _ hb))
       refine after (its' := its ++ [u10]) (n' := n + 1) I11 (fun p hp => hp) (inA I10).2 ?_ (v5.append (.cons r10 .nil)) q10
       rw [show ({ s10 with heap := h', toks := s10.toks } : Shared).heap = h' from rfl, ha]
       simp
 have hs4 : s.heap.push { cls := .type "list", data := .seq ([] : List Value).toArray } = s3.heap := e3.symm
 have acc1 : h1.get? s.heap.objs.size = some { cls := .type "list", data := .seq ([] : List Value).toArray } := hsb.extBut _ _ (by rw [Heap.size_push]; exact Nat.ne_of_lt (Nat.lt_succ_self _)) (Heap.get?_push_of_some _ (Heap.get?_push_size _ rfl))
 have tn1 : tn 0 h1 := T.keep 0 s.heap h1 st fun b _ o e => hsb.extBut b o (by rw [Heap.size_push]; exact Nat.ne_of_lt (Nat.lt_succ_of_lt (Heap.lt_size e))) (Heap.get?_push_of_some _ (Heap.get?_push_of_some _ e))
 have l4 := loop _ IY0 (by exact tn1) (by exact acc1)
 rw [← hs3] at l4
 exact codeAny_compStart_list l4 (T.self X.A 0 _ _ _ tn1 l4)
end
def tComp (wi : TI) (fv : List (Option Nat)) (jx : Nat) (tc : TT) (te : TE) : TE := fun σ H Q => wi σ H fun J H1 => ∃ W : Nat → Nat → List V → Hp → Prop, (∃ m, W 0 m [] H1) ∧ ∀ i m ys H, W i m ys H → ys.length < sizeLine ∧
 ((J.stop i H ∧ ∀ acc, H acc = none → Q (.ref acc) (upd H acc (.lst ys))) ∨ (J.go i H ∧ ∀ v H', J.yld i H v H' → tc ((blk fv σ).set jx (some v)) H' fun b H2 => if b = true then te ((blk fv σ).set jx (some v)) H2 fun y H3 => ∃ m', m' < m ∧ W (i + 1) m' (ys ++ [y]) H3 else ∃ m', m' < m ∧ W (i + 1) m' ys H2))
section
variable {X : Cx} {scope : Scope} {cl : List (Str × Addr)} {NB : List Str} {fv : List (Option Nat)} {x y : Str} {px py pos spos : Pos} {elt iter : Expr} {ifs : List Expr} {jx iy : Nat} {wi : TI} {tc : TT} {te : TE}
theorem pe_comp (hc : X.calm = true) (O : CompOk X scope cl NB fv) (hi : PI X (.Name x px) iter wi) (hx : scope.names.lookup x = some .local) (hjx : NB[jx]? = some x) (hfx : fv[jx]? = some none) (hC : ∀ s0 H0 ex, PIfs (XS X NB scope cl s0 H0 ex) ifs tc)
   (hE : ∀ s0 H0 ex, PE (XS X NB scope cl s0 H0 ex) elt te) (hs : ∀ x, foldedSetIterable iter X.env x = pure x := by intro _; rfl) : PE X (.ListComp elt [⟨.Name x px, iter, ifs, 0⟩] scope pos) (tComp wi fv jx tc te) := by
 intro pins s σ H Q I h
 rw [eval_ListComp]
 refine wpAny_comprehension_free (use := none) rfl hs O.clos O.kind O.names (thn (hi pins s σ H _ I h) fun v s1 h1 => thn h1 fun itv s2 h2 => ?_)
 obtain ⟨it, fp, tn, J, H2, e, I2, T, st2, f2, W, w0, turn⟩ := h2
 subst e
 refine comp_core (RR := fun acc C => compPost (model X.prog X.w) X.A X.xe none (EP X pins σ Q) acc C) I2 T st2 f2 hc O hx hjx hfx hC hE w0 turn fun acc C s' H' ys m na I' hn oC nC fin => ?_
 exact ⟨m, hn, fun h'' sb => ⟨.ref acc, _, I'.touch (tk := s'.toks) nC oC sb, rfl, fin acc na⟩⟩
end
end L2
end
section
namespace L2
open PySem PySem.Spec PyProof.Rows
theorem kV_of {P : Program} {w : World} {k : Key} {u : Value} (h : (ZL P w).is k u = true) : RelV (kV k) u := by
 rcases ZM (k := k) (v := u) h with ⟨i, t, rfl, rfl⟩ | ⟨x, t, rfl, rfl⟩
 · exact ⟨t, rfl⟩
 · exact ⟨t, rfl⟩
theorem KV.at {κ : Type} : ∀ {kvs : List (κ × V)} {vs : List (κ × Value)} {i : Nat} {k : κ} {v : V}, KV kvs vs → kvs[i]? = some (k, v) → ∃ u, vs[i]? = some (k, u) ∧ RelV v u
 | _, _, 0, _, _, .cons (b := q) r _, e => by
   simp at e
   subst e
   obtain ⟨q1, q2⟩ := q
   obtain ⟨r1, r2⟩ := r
   have r1' : _ = q1 := r1
   subst r1'
   exact ⟨q2, by simp, r2⟩
 | _, _, i + 1, k, v, .cons _ t, e => by
   obtain ⟨u, h1, h2⟩ := KV.at (i := i) (k := k) (v := v) t (by simpa using e)
   exact ⟨u, by simpa using h1, h2⟩
 | _, _, _, _, _, .nil, e => by simp at e
section
variable {X : Cx} {pins : List (Addr × Obj)} {σ : St} {H : Hp} {s : Shared} {a : Addr} {o : Obj} {kvs : List (Key × V)} {u : HO}
end
section
variable {X : Cx} {tg : Expr}
end
end L2
end
section
namespace L2
open PySem PySem.Spec PyProof.Rows
mutual
inductive Den (K : W.Frag) (H : Hp) : V → PyData → Prop
 | non : Den K H .non .none
 | bl (b : Bool) : Den K H (.bl b) (.bool b)
 | int (i : Int) : Den K H (.int i) (.int i)
 | str (x : Str) : Den K H (.str x) (.str x)
 | tup {a : Addr} {xs : List V} {ds : List PyData} : SqT K H a xs → DenL K H xs ds → Den K H (.ref a) (.tuple ds)
 | lst {a : Addr} {xs : List V} {ds : List PyData} : SqL K H a xs → DenL K H xs ds → Den K H (.ref a) (.list ds)
inductive DenL (K : W.Frag) (H : Hp) : List V → List PyData → Prop
 | nil : DenL K H [] []
 | cons {x : V} {xs : List V} {d : PyData} {ds : List PyData} : Den K H x d → DenL K H xs ds → DenL K H (x :: xs) (d :: ds)
end
section
variable {X : Cx} {pins : List (Addr × Obj)} {σ : St} {H : Hp} {s : Shared}
mutual
theorem Den.reads (I : Inv X pins σ H s) : ∀ {x : V} {d : PyData} {u : Value}, Den X.K H x d → RelV x u → ∃ as, Reads s.heap u d as
 | _, _, _, .non, r => by cases r; exact ⟨_, .none⟩
 | _, _, _, .bl b, r => by cases r; exact ⟨_, .bool b⟩
 | _, _, _, .int i, r => by obtain ⟨t, rfl⟩ := r; exact ⟨_, .int i t⟩
 | _, _, _, .str x, r => by obtain ⟨t, rfl⟩ := r; exact ⟨_, .str x t⟩
 | _, _, _, .tup hq hl, r => by
   cases r
   obtain ⟨its, rv, ⟨o, ho, hc, n, hd⟩, hz⟩ := I.tuple hq
   obtain ⟨as, q⟩ := DenL.reads I hl rv
   exact ⟨_, .tuple ho hc hd (by simpa using q)⟩
 | _, _, _, .lst hq hl, r => by
   cases r
   obtain ⟨its, rv, ⟨o, n, ho, hc, _, hd⟩, hz⟩ := I.list hq
   obtain ⟨as, q⟩ := DenL.reads I hl rv
   exact ⟨_, .list ho hc hd (by simpa using q)⟩
theorem DenL.reads (I : Inv X pins σ H s) : ∀ {xs : List V} {ds : List PyData} {us : List Value}, DenL X.K H xs ds → Vals xs us → ∃ as, ReadsAll s.heap us ds as
 | _, _, _, .nil, r => by cases r; exact ⟨_, .nil⟩
 | _, _, _, .cons hd hl, r => by
   cases r with
   | cons r1 r2 =>
     obtain ⟨as, q⟩ := Den.reads I hd r1
     obtain ⟨bs, p⟩ := DenL.reads I hl r2
     exact ⟨_, .cons q p⟩
end
end
section
variable {X : Cx}
def rEqD (K : W.Frag) : R2 := fun x y H Q => ∃ d e, Den K H x d ∧ Den K H y e ∧ SeqAt.shaped d = true ∧ SeqAt.shaped e = true ∧ Q (.bl (PyData.eqv d e)) H
def rNeD (K : W.Frag) : R2 := fun x y H Q => ∃ d e, Den K H x d ∧ Den K H y e ∧ SeqAt.shaped d = true ∧ SeqAt.shaped e = true ∧ Q (.bl (!PyData.eqv d e)) H
theorem op_eqD (hu : X.A.units + 64 < cLine) : OpR X (compareOp .Eq) (rEqD X.K) := by
 intro pins s σ H x y v u Q I rx ry h
 obtain ⟨d, e, hd, he, sd, se, q⟩ := h
 obtain ⟨as, ra⟩ := hd.reads I rx
 obtain ⟨bs, rb⟩ := he.reads I ry
 exact eq_dataH ra rb sd se hu ⟨.bl _, H, I, rfl, q⟩
theorem op_neD (hu : X.A.units + 64 < cLine) : OpR X (compareOp .NotEq) (rNeD X.K) := by
 intro pins s σ H x y v u Q I rx ry h
 obtain ⟨d, e, hd, he, sd, se, q⟩ := h
 obtain ⟨as, ra⟩ := hd.reads I rx
 obtain ⟨bs, rb⟩ := he.reads I ry
 exact ne_dataH ra rb sd se hu ⟨.bl _, H, I, rfl, q⟩
end
mutual
theorem eqv_refl : ∀ d : PyData, d.canLay0 = true → PyData.eqv d d = true
 | .none, _ => by simp [PyData.eqv]
 | .bool b, _ => by simp [PyData.eqv]
 | .int i, _ => by simp [PyData.eqv]
 | .str x, _ => by simp [PyData.eqv]
 | .list ds, h => by
   rw [PyData.eqv]
   exact XO ds (by simpa [PyData.canLay0] using h)
 | .tuple ds, h => by
   rw [PyData.eqv]
   exact XO ds (by simpa [PyData.canLay0] using h)
 | .dict _, h => by simp [PyData.canLay0] at h
theorem XO : ∀ ds : List PyData, PyData.canLayAll0 ds = true → PyData.eqvAll ds ds = true
 | [], _ => by simp [PyData.eqvAll]
 | d :: ds, h => by
   have h' : d.canLay0 = true ∧ PyData.canLayAll0 ds = true := by simpa [PyData.canLayAll0] using h
   rw [PyData.eqvAll, eqv_refl d h'.1, XO ds h'.2]
   rfl
end
theorem eqv_self {d : PyData} (h : SeqAt.shaped d = true) : PyData.eqv d d = true := eqv_refl d (SeqAt.canLay_of_shaped h)
section
variable {X : Cx}
def clsV : V → Option Value
 | .ref a => some (.ref a)
 | .ty n => some (.type n)
 | _ => none
theorem clsV_rel {c : V} {cv u : Value} (h : clsV c = some cv) (r : RelV c u) : u = cv := by
 cases c with
 | ref a => cases (Option.some.inj h); exact r
 | ty n => cases (Option.some.inj h); exact r
 | _ => cases h
def rIsi (K : W.Frag) : List V → Hp → VK → Prop := fun xs H Q => ∃ x t c cv b, xs = [x, c] ∧ TyOf K H x t ∧ clsV c = some cv ∧ W.kitOne K t cv = some b ∧ Q (.bl b) H
theorem call_isi : XV X (.builtin "isinstance") (rIsi X.K) := by
 intro pins s σ H xs us Q I r h
 obtain ⟨x, t, c, cv, b, rfl, ty, rc, e, q⟩ := h
 obtain ⟨u, u', rfl, ru, ru'⟩ := vals2 r
 cases clsV_rel rc ru'
 exact isinst_ok I ru ty e fun tk => ⟨.bl b, H, I.tok _, rfl, q⟩
end
section
variable {X : Cx}
end
end L2
end
section
namespace L2
open PySem PySem.Spec PyProof.Rows
section
variable {X : Cx}
def CDivB (i j : Int) : Prop := 0 < j ∧ j < 2 ^ 200
theorem ZO : OpR X (binaryOp .FloorDiv) (rI CDivB fun i j => .int (i / j)) := opI fun i j _ _ _ _ _ hc q => by
 have h0 : 0 ≤ j := Int.le_of_lt hc.1
 refine floordiv_int (by have := hc.1; omega) ?_ (.inl (PyProof.noPylong_of_log2 ?_))
 · rw [Int.fdiv_eq_ediv_of_nonneg _ h0]
   exact q
 · by_cases hz : j.natAbs = 0
   · rw [hz]
     decide
   · have h1 : j.natAbs < 2 ^ 200 := by
       have := hc.2
       omega
     exact Nat.lt_trans ((Nat.log2_lt hz).mpr h1) (by decide)
end
section
variable {prog : Program} {w : World} {A : Around} {R : Result → Shared → Prop} {I S : Addr} {fp wr : List Addr} {n : Nat} {P : Nat → Value → Prop} {St : Nat → Heap → Prop} {bt : Nat → Nat → Bool} {Gd : Heap → Prop}
end
section
variable {prog : Program} {w : World} {A : Around} {E : Value → Shared → Prop} {s : Shared}
end
section
variable {X : Cx}
end
end L2
end
section
namespace L2
open PySem PySem.Spec PyProof.Rows
def Yz (cells : List (Str × Addr)) : List (Str × NameKind) → List (Str × Addr) → List (Str × Addr)
 | [], cs => cs
 | (n, k) :: r, cs => Yz cells r (if k = .free then (n, (cells.lookup n).getD 0) :: cs else cs)
theorem Tz {scope : Scope} {env : Env} (h : ∀ y ∈ scope.names, y.2 = .free → ∃ c, env.cells.lookup y.1 = some c) : closureFor scope env = pure (Yz env.cells scope.names []) := by
 have all : ∀ (l : List (Str × NameKind)) (cs : List (Str × Addr)), (∀ y ∈ l, y.2 = .free → ∃ c, env.cells.lookup y.1 = some c) →
     (forIn l cs fun (x : Str × NameKind) (r : List (Str × Addr)) => (if (x.2 == NameKind.free) = true then do let a ← cellOf env x.1; pure (ForInStep.yield ((x.1, a) :: r)) else pure (ForInStep.yield r) : Sem (ForInStep (List (Str × Addr))))) = pure (Yz env.cells l cs) := by
   intro l
   induction l with
   | nil => intro cs _; rfl
   | cons y r ih =>
     intro cs hl
     obtain ⟨n, k⟩ := y
     rw [List.forIn_cons]
     by_cases hk : k = .free
     · obtain ⟨c, hc⟩ := hl (n, k) List.mem_cons_self hk
       subst hk
       have e1 : cellOf env n = pure c := by
         unfold cellOf
         rw [hc]
       have z := ih ((n, c) :: cs) fun y hy => hl y (List.mem_cons_of_mem _ hy)
       simp only [beq_self_eq_true, if_true, e1, pure_bind, Yz, hc, Option.getD_some]
       exact z
     · have z := ih cs fun y hy => hl y (List.mem_cons_of_mem _ hy)
       have hb : (k == NameKind.free) = false := by simpa using hk
       simp only [hb, Bool.false_eq_true, if_false, pure_bind, Yz, hk]
       exact z
 unfold closureFor
 have z := all scope.names [] h
 simpa using z
theorem XT (cells : List (Str × Addr)) : ∀ (l : List (Str × NameKind)) (cs : List (Str × Addr)) (x : Str), (x, NameKind.free) ∉ l → (Yz cells l cs).lookup x = cs.lookup x
 | [], _, _, _ => rfl
 | (n, k) :: r, cs, x, h => by
   rw [Yz, XT cells r _ x fun m => h (List.mem_cons_of_mem _ m)]
   by_cases hk : k = .free
   · subst hk
     rw [if_pos rfl]
     have ne : x ≠ n := fun e => h (by rw [e]; exact List.mem_cons_self)
     rw [List.lookup_cons]
     have : (x == n) = false := by simpa using ne
     rw [this]
   · rw [if_neg hk]
theorem XA (cells : List (Str × Addr)) : ∀ (l : List (Str × NameKind)) (cs : List (Str × Addr)) (x : Str), (x, NameKind.free) ∈ l → (Yz cells l cs).lookup x = some ((cells.lookup x).getD 0)
 | (n, k) :: r, cs, x, h => by
   rw [Yz]
   by_cases hr : (x, NameKind.free) ∈ r
   · exact XA cells r _ x hr
   · have e : (x, NameKind.free) = (n, k) := (List.mem_cons.mp h).resolve_right hr
     cases e
     rw [if_pos rfl, XT cells r _ _ hr, List.lookup_cons]
     simp
def UA (names : List (Str × NameKind)) (NB : List Str) (fv : List (Option Nat)) (XN : List Str) (Xnames : List (Str × NameKind)) : Bool :=
 names.all (fun y => decide (y.2 ≠ .cell)) && names.all (fun y => decide (y.2 ≠ .local) || decide (names.lookup y.1 = some .local)) && decide NB.Nodup && decide (fv.length = NB.length) &&
   names.all (fun y => decide (y.2 ≠ .free) || (decide (Xnames.lookup y.1 = some .cell) && decide (names.lookup y.1 = some .free))) &&
   (List.range NB.length).all (fun i => match fv[i]?, NB[i]? with
     | some (some j), some x => decide (XN[j]? = some x) && decide (names.lookup x = some .free)
     | _, _ => true)
theorem Te {α : Type} {l : List (Str × α)} {x : Str} {v : α} (h : l.lookup x = some v) : (x, v) ∈ l := PySem.mem_of_lookup h
theorem Xg {env : Env} (hk : env.scope.kind = .function) : ∀ {l : List (Str × NameKind)} {x : Str} {k : NameKind}, (∀ y ∈ l, y.2 = .free → env.kindOf y.1 = some .cell) → (∀ y ∈ l, y.2 ≠ .cell) →
   (l.map fun (y : Str × NameKind) => if (y.2 == NameKind.free && env.scope.kind == .function && env.kindOf y.1 == some .cell) = true then (y.1, NameKind.cell) else (y.1, y.2)).lookup x = some k → (k = .cell ∧ l.lookup x = some .free) ∨ (k ≠ .cell ∧ k ≠ .free ∧ l.lookup x = some k)
 | [], _, _, _, _, h => by simp at h
 | (n, q) :: r, x, k, h1, h2, h => by
   rw [List.map_cons] at h
   by_cases hq : q = .free
   · subst hq
     have e := h1 (n, .free) List.mem_cons_self rfl
     have ht : (NameKind.free == NameKind.free && env.scope.kind == .function && env.kindOf n == some .cell) = true := by
       rw [hk, show env.kindOf n = some .cell from e]
       decide
     simp only [ht, if_true] at h
     rw [List.lookup_cons] at h ⊢
     cases hx : x == n with
     | true =>
       rw [hx] at h
       have h' : NameKind.cell = k := Option.some.inj h
       exact .inl ⟨h'.symm, rfl⟩
     | false =>
       rw [hx] at h
       exact Xg hk (fun y hy => h1 y (List.mem_cons_of_mem _ hy)) (fun y hy => h2 y (List.mem_cons_of_mem _ hy)) h
   · have hb : (q == NameKind.free) = false := by simpa using hq
     simp only [hb, Bool.false_and, Bool.false_eq_true, if_false] at h
     rw [List.lookup_cons] at h ⊢
     cases hx : x == n with
     | true =>
       rw [hx] at h
       have h' : q = k := Option.some.inj h
       subst h'
       exact .inr ⟨h2 (n, q) List.mem_cons_self, hq, rfl⟩
     | false =>
       rw [hx] at h
       exact Xg hk (fun y hy => h1 y (List.mem_cons_of_mem _ hy)) (fun y hy => h2 y (List.mem_cons_of_mem _ hy)) h
theorem Vu {env : Env} (hk : env.scope.kind = .function) : ∀ {l : List (Str × NameKind)} {x : Str}, (∀ y ∈ l, y.2 = .free → env.kindOf y.1 = some .cell) → l.lookup x = some .free →
   (l.map fun (y : Str × NameKind) => if (y.2 == NameKind.free && env.scope.kind == .function && env.kindOf y.1 == some .cell) = true then (y.1, NameKind.cell) else (y.1, y.2)).lookup x = some .cell
 | [], _, _, h => by simp at h
 | (n, q) :: r, x, h1, h => by
   rw [List.map_cons]
   rw [List.lookup_cons] at h
   cases hx : x == n with
   | true =>
     rw [hx] at h
     have h' : q = .free := Option.some.inj h
     subst h'
     have e := h1 (n, .free) List.mem_cons_self rfl
     have ht : (NameKind.free == NameKind.free && env.scope.kind == .function && env.kindOf n == some .cell) = true := by
       rw [hk, show env.kindOf n = some .cell from e]
       decide
     simp only [ht, if_true]
     rw [List.lookup_cons, hx]
   | false =>
     rw [hx] at h
     have z := Vu hk (fun y hy => h1 y (List.mem_cons_of_mem _ hy)) h
     split
     · rw [List.lookup_cons, hx]
       exact z
     · rw [List.lookup_cons, hx]
       exact z
theorem TY {X : Cx} {scope : Scope} {NB : List Str} {fv : List (Option Nat)} (hk : scope.kind = .function) (hX : X.env.scope.kind = .function) (hcell : ∀ x, X.env.scope.names.lookup x = some .cell → ∃ c, X.env.cells.lookup x = some c)
   (chk : UA scope.names NB fv X.N X.env.scope.names = true) : CompOk X scope (Yz X.env.cells scope.names []) NB fv := by
 unfold UA at chk
 simp only [Bool.and_eq_true, List.all_eq_true, decide_eq_true_eq, Bool.or_eq_true] at chk
 obtain ⟨⟨⟨⟨⟨c1, c2⟩, c3⟩, c4⟩, c5⟩, c6⟩ := chk
 have f1 : ∀ y ∈ scope.names, y.2 = .free → X.env.kindOf y.1 = some .cell := fun y hy e => by
   rcases c5 y hy with z | z
   · exact absurd e z
   · exact z.1
 have hasc : ∀ x, (x, NameKind.free) ∈ scope.names → ∃ c, X.env.cells.lookup x = some c := fun x m => hcell x (f1 _ m rfl)
 have isfree : ∀ x, (relabel scope X.env).names.lookup x = some .cell ∨ (relabel scope X.env).names.lookup x = some .free → scope.names.lookup x = some .free := fun x h => by
   have lem := @Xg X.env hX scope.names x
   rcases h with h | h
   · rcases lem f1 c1 (k := .cell) h with ⟨_, z⟩ | ⟨z, _⟩
     · exact z
     · exact absurd rfl z
   · rcases lem f1 c1 (k := .free) h with ⟨z, _⟩ | ⟨_, z, _⟩
     · cases z
     · exact absurd rfl z
 refine ⟨Tz fun y hy e => ?_, hk, c1, fun y hy e => ?_, c3, c4, fun x c h => ?_, fun x h => ?_, fun i x j h1 h2 => ?_⟩
 · obtain ⟨n, q⟩ := y
   have e' : q = .free := e
   subst e'
   exact hasc n hy
 · rcases c2 y hy with z | z
   · exact absurd e z
   · exact z
 · by_cases m : (x, NameKind.free) ∈ scope.names
   · obtain ⟨c', hc'⟩ := hasc x m
     rw [XA _ _ _ _ m, hc'] at h
     rw [hc']
     exact h
   · rw [XT _ _ _ _ m] at h
     cases h
 · have m := Te (isfree x h)
   exact ⟨_, XA _ _ _ _ m⟩
 · have hi : i < NB.length := (List.getElem?_eq_some_iff.mp h1).1
   have z := c6 i (List.mem_range.mpr hi)
   rw [h1, h2] at z
   simp only [Bool.and_eq_true, decide_eq_true_eq] at z
   have m := Te z.2
   have kc := f1 _ m rfl
   refine ⟨z.1, .inr (.inl kc), ?_, ⟨_, XA _ _ _ _ m⟩, .inl (Vu hX f1 z.2)⟩
   rw [kc]
   decide
theorem Uc {CX : CXT} {P : Program} {w : World} {K : W.Frag} {mg : Str → Option Value} {base : Heap} {N : List Str} {qual : Str} {sc scope : Scope} {f : Addr} {cd : Value} {A : Around} {outer : List Env} {s : Shared} {H : Hp} {E : XK} {NB : List Str} {fv : List (Option Nat)}
   (hk : scope.kind = .function) (hX : sc.kind = .function) (chk : UA scope.names NB fv N sc.names = true) :
   CompOk (cxOf CX P w K mg base N qual sc f cd A outer s H E).nox scope (Yz (cxOf CX P w K mg base N qual sc f cd A outer s H E).env.cells scope.names []) NB fv :=
 TY hk hX (fun x h => VJ h) chk
theorem compOk_fnE {CX : CXT} {P : Program} {w : World} {K : W.Frag} {mg : Str → Option Value} {base : Heap} {N : List Str} {qual : Str} {sc scope : Scope} {f : Addr} {cd : Value} {A : Around} {outer : List Env} {s : Shared} {H : Hp} {E : XK} {NB : List Str} {fv : List (Option Nat)}
   (hk : scope.kind = .function) (hX : sc.kind = .function) (chk : UA scope.names NB fv N sc.names = true) :
   CompOk (cxOf CX P w K mg base N qual sc f cd A outer s H E) scope (Yz (cxOf CX P w K mg base N qual sc f cd A outer s H E).env.cells scope.names []) NB fv :=
 TY hk hX (fun x h => VJ h) chk
end L2
end
section
namespace L2
open PySem PySem.Spec PyProof.Rows
structure ExcC (K : W.Frag) (C : Addr) : Prop where
 ga : W.findIn K (.ref C) "__getattribute__" = some (some (.builtin "BaseException.__getattribute__"))
 gn : W.findIn K (.ref C) "__getattr__" = some none
 gc : W.findIn K (.ref C) "__class__" = some (some (.builtin "object.__class__"))
 mo : W.mroIn K C (.type "object") = some true
 mb : W.mroIn K C (.type "BaseException") = some true
 cl : (W.clsIn K C).isSome = true
section
variable {prog : Program} {w : World} {A : Around} {E : Value → Shared → Prop} {K : W.Frag} {h : Heap} {g : Array GenState} {d : Drawn} {t : Nat} {os : OsState} {a C : Addr} {o : Obj}
end
section
variable {X : Cx}
end
end L2
end
section
namespace L2
open PySem PySem.Spec PyProof.Rows PySem.SeqAt
section
variable {X : Cx}
end
theorem vals_by : ∀ {xs : List V} {us : List Value}, us.length = xs.length → (∀ (j : Nat) u, us[j]? = some u → ∃ x, xs[j]? = some x ∧ RelV x u) → Vals xs us
 | [], [], _, _ => .nil
 | [], _ :: _, h, _ => by simp at h
 | _ :: _, [], h, _ => by simp at h
 | x :: xs, u :: us, h, f => by
   obtain ⟨y, e, r⟩ := f 0 u rfl
   simp at e
   subst e
   exact .cons r (vals_by (by simpa using h) fun j v hj => f (j + 1) v (by simpa using hj))
section
variable {prog : Program} {w : World} {A : Around} {E : Value → Shared → Prop} {s : Shared} {T : String} {r d : Addr} {n : Nat} {P : Nat → Value → Prop} {OK : Heap → Prop}
theorem collect_src {Q : List Value → Shared → Prop} (K : W.KdlSrc prog w T r d n P OK) (hh : A.handled = none) (hok : OK s.heap) (hn : n ≤ sizeLine)
   (h : ∀ (h' : Heap) tk (vs : List Value), (∀ b o, s.heap.get? b = some o → h'.get? b = some o) → vs.length = n → (∀ (j : Nat) v, vs[j]? = some v → P j v) → Q vs { s with heap := h', toks := tk }) :
   wpAny (model prog w) A (collect (.ref r)) Q E s := by
 have lt := K.there _ hok
 have key : ∀ R : Result → Shared → Prop, (∀ (h' : Heap) (tk : Nat) (acc : Array Value) (c : Nat), (∀ b o, b ≠ s.heap.objs.size → (s.heap.push (seqObj "list" #[] 0)).get? b = some o → h'.get? b = some o) → h'.get? s.heap.objs.size = some { cls := .type "list", dict := none, data := .seq acc c, slots := #[] } → ItemsOf P acc n →
     R (.ok (.ret (.ref s.heap.objs.size))) { s with heap := h', toks := tk }) → codeAny (model prog w) A (.builtin "list.__iadd__" ⟨[.ref s.heap.objs.size, .ref r], []⟩) R { s with heap := s.heap.push (seqObj "list" #[] 0) } := fun R hR => by
   refine codeAny_builtin entry_list_iadd' ?_
   rw [Around.under_plainId (by decide +kernel) _]
   exact W.kdl_extend (s := { s with heap := s.heap.push (seqObj "list" #[] 0) }) K hh (K.keep _ _ hok fun b _ o e => Heap.get?_push_of_some _ e) s.heap.objs.size (Nat.ne_of_gt lt.1) (Nat.ne_of_gt lt.2) _ 0 (Heap.get?_push_size _ rfl) hR hn
 unfold collect
 refine wpAny_bind (wpAny_runValue (codeAny_builtin entry_proto_collect' ?_))
 show wpAny _ _ (do again (.builtin "list.__iadd__" ⟨[← newList [], .ref r], []⟩)) _ _ s
 refine wpAny_bind (wpAny_newList (wpAny_pure ⟨Code.quiet_builtin _ (by decide +kernel), key _ fun h' tk acc c kk hS hacc => ?_⟩))
 refine wpAny_bind (wpAny_load hS ?_)
 refine wpAny_pure (h h' tk acc.toList (fun b o e => kk b o (Nat.ne_of_lt (Heap.lt_size e)) (Heap.get?_push_of_some _ e)) ?_ fun j v e => ?_)
 · rw [Array.length_toList]; exact hacc.1
 · exact hacc.2 j v (by rw [← Array.getElem?_toList]; exact e)
theorem sorted_src {Q : Value → Shared → Prop} (K : W.KdlSrc prog w T r d n P OK) (hh : A.handled = none) (hok : OK s.heap) (hn : n < 64) (hP : ∀ vs : List Value, vs.length = n → (∀ (j : Nat) v, vs[j]? = some v → P j v) → ∃ ns, IntsAre vs ns ∧ ∀ (h' : Heap) tk (vs' : List Value) (ns' : List Int) (a : Addr) (e : Nat) (h1 : Heap), (∀ b o, s.heap.get? b = some o → h1.get? b = some o) →
     h1.objs.size ≤ a → (∀ b o, h1.get? b = some o → h'.get? b = some o) → h'.get? a = some (seqObj "list" vs'.toArray e) → IntsAre vs' ns' → ns'.Perm ns → ns'.Pairwise (· ≤ ·) → Q (.ref a) { s with heap := h', toks := tk }) :
   wpAny (model prog w) A (call (.builtin "sorted") [.ref r]) Q E s := by
 refine Calls.call_function_entry kind_sorted plain_sorted entry_sorted (args_sorted1 _) ?_
 unfold Builtin.«sorted»
 refine wpAny_bind (m := checkCount "sorted" 1 1 _) (wpAny_pure ?_)
 refine wpAny_bind (collect_src K hh hok (Nat.le_trans (Nat.le_of_lt hn) (by decide)) fun h1 tk vs kk hl hv => ?_)
 obtain ⟨ns, hI, fin⟩ := hP vs hl hv
 refine wpAny_bind (wpAny_newList ?_)
 have hoL : (h1.push (seqObj "list" vs.toArray 0)).get? h1.objs.size = some (seqObj "list" vs.toArray 0) := Heap.get?_push_size _ rfl
 refine wpAny_bind (wpAny_holding (wpAny_call_entry slot_list_sort ⟨_, hoL, rfl⟩ entry_list_sort (list_sort_tree hoL hI (by omega) fun out ns' a1 a2 a3 => ⟨_, rfl, ?_⟩) (args_list_sort _)))
 obtain ⟨e, he⟩ := sortedHeap_at (out := out) hoL
 refine wpAny_pure ⟨_, rfl, fin _ tk out.toList ns' h1.objs.size e h1 kk (Nat.le_refl _) (fun b o q => ?_) (by simpa using he) a1 a2 a3⟩
 have z := Heap.get?_push_of_some (seqObj "list" vs.toArray 0) q
 have hb : b ≠ h1.objs.size := Nat.ne_of_lt (Heap.lt_size q)
 rw [sortedHeap_old hb (Heap.lt_size z)]
 exact z
end
section
variable {X : Cx}
def rSortedD : List V → Hp → VK → Prop := fun xs H Q => ∃ (a : Addr) (kvs : List (Int × V)), xs = [.ref a] ∧ H a = some (.dK (kvs.map fun p => (Sum.inl p.1, p.2))) ∧ kvs.length < 64 ∧
 ∀ ns' : List Int, ns'.Perm (kvs.map (·.1)) → ns'.Pairwise (· ≤ ·) → ∀ p, H p = none → Q (.ref p) (upd H p (.lst (ns'.map V.int)))
theorem SG (hc : X.calm = true) : XV X (.builtin "sorted") rSortedD := by
 intro pins s σ H xs us Q I r h
 obtain ⟨a, kvs, rfl, ha, hl', k⟩ := h
 obtain ⟨u, rfl, ru⟩ := Ud r
 cases ru
 obtain ⟨z, hd, vs, rv, dd⟩ := dk_of I.hok ha
 have hlen : kvs.length = vs.length := by rw [← Paired.length rv, List.length_map]
 obtain ⟨o, es, ep, ho, hr⟩ := id dd
 have da : s.heap.DictAt (ZL X.prog X.w) a vs ep := ⟨o, es, ho, hr⟩
 refine sorted_src (W.kdl_dict (kvs := vs) (ep := ep) hd) (I.ok.hd hc) da (by omega) fun us hl hv => ⟨kvs.map (·.1), ?_, fun h' tk vs' ns' p e h1 k1 hp k2 hat hi hperm hpw => ?_⟩
 · refine intsAre_of (vals_by (by rw [List.length_map, List.length_map]; omega) fun j v hj => ?_)
   obtain ⟨kk, x, h1, h2⟩ := hv j v hj
   have hlt : j < kvs.length := by
     have := (List.getElem?_eq_some_iff.mp hj).1
     omega
   obtain ⟨w, hw, _⟩ := KV.at rv (i := j) (k := Sum.inl kvs[j].1) (v := kvs[j].2) (by simp [hlt])
   rw [h1] at hw
   cases hw
   exact ⟨.int kvs[j].1, by simp [hlt], kV_of h2⟩
 · have I1 : Inv X pins σ H { s with heap := h1, toks := tk } := I.kept k1
   refine ⟨.ref p, _, I1.laid (o := .lst (ns'.map V.int)) (t' := tk) k2 hp ⟨?_, vs', e, VM hi, hat⟩, rfl, k ns' hperm hpw p (I1.hok.fresh hp)⟩
   rw [List.length_map, hperm.length_eq, List.length_map]
   exact Nat.le_trans (Nat.le_of_lt hl') (by decide)
end
end L2
end
section
namespace L2
open PySem PySem.Spec PyProof.Rows PySem.SeqAt
abbrev TF := St → Hp → (Hp → Prop) → Prop
def PFs (X : Cx) (es : List Expr) (t : TF) : Prop :=
 ∀ (pins : List (Addr × Obj)) (s : Shared) (σ : St) (H : Hp) (out : Str) (Q : VK), Inv X pins σ H s → out.length + 2000 * es.length ≤ sizeLine → t σ H (fun H' => ∀ y, Q (.str y) H') →
   wpAny (model X.prog X.w) X.A (joinParts out (evalEach es X.env)) (EP X pins σ Q) X.xe s
section
variable {X : Cx} {e : Expr} {es : List Expr} {te : TE} {t : TF} {pos : Pos}
theorem US : PFs X [] (fun _ H Q => Q H) := fun pins s σ H out Q I hz h =>
 joinParts_nil (s := s) ⟨.str out, H, I.tok _, ⟨_, rfl⟩, h out⟩ (by simp at hz; exact hz)
theorem YW {x j p} (hr : PFs X es t) (hx : x.length ≤ 2000 := by decide) : PFs X (.Constant (.str x) j p :: es) t := fun pins s σ H out Q I hz h => by
 have hz2 : out.length + 2000 * (es.length + 1) ≤ sizeLine := hz
 have e1 : (out ++ x).length = out.length + x.length := strLen_append _ _
 show wpAny _ _ (joinParts out (eval (.Constant (.str x) j p) X.env :: evalEach es X.env)) _ _ s
 refine joinParts_cons (Calls.Constant_str ⟨by rw [e1]; omega, ?_⟩)
 exact hr pins _ σ H _ Q (I.tok _) (by rw [e1]; omega) h
theorem len_small {a : Int} (h : a.natAbs.log2 < 1920) : (toString a : Str).length ≤ 2000 := by
 have e := int_text_length_le (k := 1920) (by decide) h
 show (Str.ofString (toString a)).length ≤ 2000
 rw [PySem.ofString_length]
 omega
theorem Xv {p : Pos} (he : PE X e te) (hr : PFs X es t) : PFs X (.FormattedValue e (-1) none p :: es) (fun σ H Q => te σ H fun x H1 => ∃ i, x = .int i ∧ i.natAbs.log2 < 1920 ∧ t σ H1 Q) := fun pins s σ H out Q I hz h => by
 have hz2 : out.length + 2000 * (es.length + 1) ≤ sizeLine := hz
 show wpAny _ _ (joinParts out (eval (.FormattedValue e (-1) none p) X.env :: evalEach es X.env)) _ _ s
 refine joinParts_cons (FormattedValue_plain (thn (he pins s σ H _ I h) fun u s1 ⟨x, H1, I1, r1, i, e1, hs, q⟩ => ?_))
 subst e1
 obtain ⟨tk, rfl⟩ := r1
 have e2 : (out ++ (toString i : Str)).length = out.length + (toString i : Str).length := strLen_append _ _
 have e3 := len_small hs
 refine formatField_int_small hs ⟨by rw [e2]; omega, ?_⟩
 exact hr pins _ σ H1 _ Q ((I1.tok _).tok _) (by rw [e2]; omega) q
def tFStr (t : TF) : TE := fun σ H Q => t σ H (fun H' => ∀ y, Q (.str y) H')
theorem Vy {e2 : Expr} (h : PFs X (e :: e2 :: es) t) (hz : 2000 * (e :: e2 :: es).length ≤ sizeLine := by decide) : PE X (.JoinedStr (e :: e2 :: es) pos) (tFStr t) := fun pins s σ H Q I hq =>
 JoinedStr_many (h pins s σ H Str.empty Q I (by show 0 + _ ≤ _; omega) hq)
end
section
variable {X : Cx}
theorem Vals.ins {xs : List V} {us : List Value} {y : V} {u : Value} (h : Vals xs us) (r : RelV y u) (k : Nat) : Vals (xs.take k ++ y :: xs.drop k) (us.take k ++ u :: us.drop k) := (h.take k).append (.cons r (h.drop k))
def rInsert : V → List V → Hp → VK → Prop := fun x vs H Q => ∃ l xs i y, x = .ref l ∧ vs = [.int i, y] ∧ H l = some (.lst xs) ∧ 0 ≤ i ∧ i ≤ xs.length ∧ xs.length < sizeLine ∧ Q .non (upd H l (.lst (xs.take i.toNat ++ y :: xs.drop i.toNat)))
theorem mt_insert : MtM X "list.insert" rInsert := by
 intro pins s σ H x vs v us Q I rx rv h
 obtain ⟨l, xs, i, y, rfl, rfl, hH, h1, h2, hz, q⟩ := h
 cases rx
 obtain ⟨u, v, rfl, ru, rvv⟩ := rv.two
 obtain ⟨t, rfl⟩ := ru
 obtain ⟨z, its, n, r, hl, e⟩ := I.lstM hH
 have b1 : xs.length < 2 ^ 24 := hz
 refine call_meets F.slot_list_insert ⟨_, e, rfl⟩ F.entry_list_insert (F.args_list_insert_3 _ _ _)
   (PySem.AutoSeq1.list_insert_list_int_val_1 l its.toArray n i t v (by rw [show Builtin.List.listFitsIndex i = true from fitsIndex_both (by omega) (by omega)]; simp) (by rw [List.size_toArray]; omega)) ⟨e, ?_⟩
 refine ⟨.non, _, I.lset (its' := its.take i.toNat ++ v :: its.drop i.toNat) hH e ?_ (r.ins rvv i.toNat) ?_, rfl, q⟩
 · show (its.toArray.extract 0 (if i < 0 then (i + (its.toArray.size : Int)).toNat else min i.toNat its.toArray.size)).push v ++ its.toArray.extract (if i < 0 then (i + (its.toArray.size : Int)).toNat else min i.toNat its.toArray.size) = _
   rw [if_neg (by omega), List.size_toArray, Nat.min_eq_left (by omega)]
   exact W.kl_ins_eq its i.toNat v
 · rw [List.length_append, List.length_cons, List.length_take, List.length_drop]
   omega
end
section
variable {prog : Program} {w : World} {A : Around} {E : Value → Shared → Prop} {s : Shared}
theorem Uo {it l : Addr} {i : Nat} {items : Array Value} {x : Value} {Q : Value → Shared → Prop} (hit : s.heap.IsTupleIter it l i) (hl : s.heap.IsTuple l items) (hx : items[i]? = some x)
   (hQ : ∀ h', h'.IsTupleIter it l (i + 1) → Heap.SameBut it s.heap h' → Q x { s with heap := h' }) : wpAny (model prog w) A (Builtin.SmallTypes.nextOf (.ref it)) Q E s := by
 obtain ⟨o, ho, hc, hd⟩ := id hit
 obtain ⟨ol, hol, _, nl, hdl⟩ := hl
 unfold Builtin.SmallTypes.nextOf
 refine wpAny_bind (wpAny_callSpecial?_slot (name := Str.ofString "__next__") hit.typeIs F.slot_tuple_iterator_next (wpAny_call_entry F.slot_tuple_iterator_next hit.typeIs F.entry_tuple_iterator_next ?_ (F.args_tuple_iterator_next_1 _)))
 show wpAny _ _ (field (.ref it) 0 >>= _) _ _ s
 refine wpAny_bind (wpAny_field ho hd (x := .ref l) rfl ?_)
 show wpAny _ _ (if (Value.ref l == Value.none) = true then _ else _) _ _ s
 rw [if_neg (show ¬ ((Value.ref l == Value.none) = true) from Bool.false_ne_true)]
 show wpAny _ _ (field (.ref it) 1 >>= _) _ _ s
 refine wpAny_bind (wpAny_field ho hd (x := .int i 0) rfl ?_)
 show wpAny _ _ (seqItems? (.ref l) >>= _) _ _ s
 refine wpAny_bind (wpAny_seqItems hol hdl ?_)
 simp only [Int.toNat_natCast, hx]
 refine wpAny_bind (wpAny_setField ho hd (by simp) (wpAny_pure ⟨x, rfl, wpAny_pure (hQ _ ?_ (Heap.SameBut.update ..))⟩))
 exact ⟨_, Heap.get?_update_self _ ho (Obj.isFreed_of_fields (Obj.data_mapFields hd _)), (Obj.cls_mapFields ..).trans hc, by
   rw [Obj.data_mapFields hd]; simp [rawInt]⟩
theorem XI {it l : Addr} {i : Nat} {items : Array Value} {Q : Value → Shared → Prop} (hh : A.handled = none) (hit : s.heap.IsTupleIter it l i) (hl : s.heap.IsTuple l items) (hx : items[i]? = none)
   (hE : ∀ h' e, Heap.ExtBut it s.heap h' → (∃ o, h'.get? e = some o ∧ o.cls = .type "StopIteration") → E (.ref e) { s with heap := h' }) : wpAny (model prog w) A (Builtin.SmallTypes.nextOf (.ref it)) Q E s := by
 obtain ⟨o, ho, hc, hd⟩ := id hit
 obtain ⟨ol, hol, _, nl, hdl⟩ := hl
 unfold Builtin.SmallTypes.nextOf
 refine wpAny_bind (wpAny_callSpecial?_slot (name := Str.ofString "__next__") hit.typeIs F.slot_tuple_iterator_next (wpAny_call_entry F.slot_tuple_iterator_next hit.typeIs F.entry_tuple_iterator_next ?_ (F.args_tuple_iterator_next_1 _)))
 show wpAny _ _ (field (.ref it) 0 >>= _) _ _ s
 refine wpAny_bind (wpAny_field ho hd (x := .ref l) rfl ?_)
 show wpAny _ _ (if (Value.ref l == Value.none) = true then _ else _) _ _ s
 rw [if_neg (show ¬ ((Value.ref l == Value.none) = true) from Bool.false_ne_true)]
 show wpAny _ _ (field (.ref it) 1 >>= _) _ _ s
 refine wpAny_bind (wpAny_field ho hd (x := .int i 0) rfl ?_)
 show wpAny _ _ (seqItems? (.ref l) >>= _) _ _ s
 refine wpAny_bind (wpAny_seqItems hol hdl ?_)
 simp only [Int.toNat_natCast, hx]
 refine wpAny_bind (wpAny_rule (wpAny_bind (wpAny_setField ho hd (by simp) ?_)))
 show wpAny _ _ (newExc (.type "StopIteration") [] >>= _) _ _ _
 refine wpAny_bind ?_
 simp only [newExc, newTuple]
 refine wpAny_bind (wpAny_newObj_type ?_ (by size_fits))
 refine wpAny_bind (m := firstArgMember _ _) (wpAny_of_eq (a := Value.none) (by first | rfl | (simp only [firstArgMember]; rfl)) ?_)
 refine wpAny_newObj_type ?_ (by size_fits)
 simp only [raiseNew]
 refine wpAny_bind (wpAny_handled ?_)
 first | rw [show A.in1.handled = none from hh] | rw [hh]
 refine wpAny_bind (wpAny_pure (wpAny_throw ?_))
 exact hE _ _ (((Heap.SameBut.update ..).extBut.push _).push _) ⟨_, Heap.get?_push_size _ rfl, rfl⟩
theorem draws_tup (hh : A.handled = none) (it l : Addr) (hne : l ≠ it) (items : Array Value) : Draws prog w A it [it, l] items.size (fun i v => items[i]? = some v) (fun i h => h.IsTupleIter it l i ∧ h.IsTuple l items) where
 live := fun _ _ st => let ⟨o, ho, _⟩ := st.1; ⟨o, ho⟩
 frame := fun _ _ _ st hk => ⟨st.1.at fun o e => hk it (by simp) o e, let ⟨o, ho, r⟩ := st.2; ⟨o, hk l (by simp) o ho, r⟩⟩
 item := fun i s Q E hi st hQ => by
   refine Uo st.1 st.2 (x := items[i]) (by simp [hi]) fun h' hit' hs' => ?_
   exact hQ _ h' s.toks (by simp [hi]) ⟨hit', st.2.extBut hs'.extBut hne⟩ hs'
 done := fun s Q E st hE => XI hh st.1 st.2 (by simp) hE
open AutoSeq1 (wpAny_loadPart') in
theorem enum_newT (l : Addr) (items : Array Value) (n : Nat) (dct : Option Addr) (sl : Array (Option Value)) :
   Meets (Builtin.«enumerate.__new__» ⟨[.type "enumerate", .ref l], []⟩) (fun _ R s => s.heap.get? l = some { cls := .type "tuple", dict := dct, data := .seq items n, slots := sl } ∧
     R (.ok (.ret (.ref (s.heap.push { cls := .type "tuple_iterator", data := .fields #[.ref l, .int 0 0] }).objs.size)))
       { s with heap := (s.heap.push { cls := .type "tuple_iterator", data := .fields #[.ref l, .int 0 0] }).push { cls := .type "enumerate", data := .fields #[.none, .bool false, .ref s.heap.objs.size, rawInt 0, .none, .none] } }) :=
 .of_wp fun prog w A R s h => by
   obtain ⟨hp, g, d, tk, os⟩ := s; obtain ⟨hl, h⟩ := h
   have hsub := sub_enumerate
   have hL : Heap.IsTuple (Shared.heap ⟨hp, g, d, tk, os⟩) l items := ⟨_, hl, rfl, n, rfl⟩
   wp_walk using wpAny_loadPart' hl
   refine wpAny_stack_any fun st => wpAny_pure ?_
   split
   · rename_i c _ _ _ _ _
     cases (c == Value.type "enumerate")
     · wp_walk using wpAny_loadPart' hl, wpAny_pyIter_tuple hL
       exact ⟨_, rfl, h⟩
     · wp_walk using wpAny_loadPart' hl, wpAny_pyIter_tuple hL
       exact ⟨_, rfl, h⟩
   · wp_walk using wpAny_loadPart' hl, wpAny_pyIter_tuple hL
     exact ⟨_, rfl, h⟩
theorem call_enumT {l : Addr} {items : Array Value} {Q : Value → Shared → Prop} (hL : s.heap.IsTuple l items)
   (h : ∀ h', IsEnum h' (s.heap.objs.size + 1) s.heap.objs.size 0 .none → h'.IsTupleIter s.heap.objs.size l 0 → h'.objs.size = s.heap.objs.size + 2 →
     (∀ b o, s.heap.get? b = some o → h'.get? b = some o) → Q (.ref (s.heap.objs.size + 1)) { s with heap := h' }) :
   wpAny (model prog w) A (call (.type "enumerate") [.ref l]) Q E s := by
 obtain ⟨⟨c, dct, dt, sl⟩, hl, hc, n, hd⟩ := hL
 replace hc : c = .type "tuple" := hc
 replace hd : dt = .seq items n := hd
 subst hc hd
 refine callType_new F.called_enumerate (by decide) (F.typeCall_enumerate_1 _) (F.newCall_enumerate_1 _) (fun obj => F.args_object_init_2 obj _) F.entry_enumerate_new (enum_newT l items n dct sl) ⟨hl, ?_⟩
 have hz : (s.heap.push { cls := .type "tuple_iterator", data := .fields #[.ref l, .int 0 0] }).objs.size = s.heap.objs.size + 1 := Heap.size_push ..
 show _ ∧ _
 rw [hz]
 have he : IsEnum ((s.heap.push { cls := .type "tuple_iterator", data := .fields #[.ref l, .int 0 0] }).push
     { cls := .type "enumerate", data := .fields #[.none, .bool false, .ref s.heap.objs.size, rawInt 0, .none, .none] }) (s.heap.objs.size + 1) s.heap.objs.size 0 .none := by
   have := Heap.get?_push_size (s.heap.push { cls := .type "tuple_iterator", data := .fields #[.ref l, .int 0 0] })
     (o := { cls := .type "enumerate", data := .fields #[.none, .bool false, .ref s.heap.objs.size, rawInt 0, .none, .none] }) rfl
   rw [hz] at this; exact this
 refine ⟨⟨_, he, rfl⟩, h _ he ⟨_, Heap.get?_push_of_some _ (Heap.get?_push_size _ rfl), rfl, rfl⟩ (by rw [Heap.size_push, hz]) fun b o x => Heap.get?_push_of_some _ (Heap.get?_push_of_some _ x)⟩
end
end L2
end
section
namespace L2
open PySem PySem.Spec PyProof.Rows PySem.SeqAt
theorem Inv.turnedL {X : Cx} {pins : List (Addr × Obj)} {σ : St} {H : Hp} {s : Shared} {h' : Heap} {t' : Nat} {fp : List Addr} (I : Inv X pins σ H s) (k : ∀ b o, b ∉ fp → s.heap.get? b = some o → h'.get? b = some o) (hf : ∀ b ∈ fp, FpOk X pins H b) (there : ∀ b ∈ fp, ∃ o, h'.get? b = some o) :
   Inv X pins σ H { s with heap := h', toks := t' } := by
 have nit : ∀ b u, H b = some u → b ∉ fp := fun b u e z => by rw [(hf b z).1] at e; cases e
 refine I.step (g' := s.gens) (d' := s.drawn) (ch := fp) (fun b hb => ?_) (fun b o _ _ hc e _ => k b o hc e) (fun b o _ _ hc e _ => ⟨o.slots, k b o hc e⟩) (fun _ _ _ _ n => n)
   (fun b o hc e => ⟨o, k b o hc e⟩) (fun _ _ e => e) (fun _ _ _ e => e) (fun b ps e => ⟨#[], by rw [e]; simp⟩) (fun m hm => ?_) (fun b u e => ?_) I.bare
 · obtain ⟨f0, f1, f2, f3, f4, f5⟩ := hf b hb
   exact ⟨f3, f1, f4, f5⟩
 · obtain ⟨o, es, ep, ho, r⟩ := hm
   exact ⟨o, es, ep, k _ o (fun z => (hf _ z).2.1 rfl) ho, r⟩
 · refine (I.hok b u e).stay (fun c v hc q => k c v ?_ q) (fun _ q => q) fun _ _ q => q
   rcases hc with z | z
   · rw [z]; exact nit b u e
   · exact nit c _ z
def Ite (K : W.Frag) (a : Addr) : It :=
 ⟨fun i H => ∃ xs x, SqT K H a xs ∧ xs[i]? = some x, fun i H x H' => ∃ T y, H T = none ∧ H' = upd H T (.tup [.int i, y]) ∧ x = .ref T ∧ ∀ xs, SqT K H a xs → xs[i]? = some y, fun i H => ∃ xs, SqT K H a xs ∧ xs.length ≤ i⟩
theorem turn_enumT {P : Program} {w : World} {K : W.Frag} {elts : List Expr} {k : Nat} {tpos : Pos} (a it e : Addr) (hei : e ≠ it) : Turn P w K (.Tuple elts k tpos) (Ite K a) [e, it] e (fun i h => (∃ old, IsEnum h e it i old) ∧ h.IsTupleIter it a i) where
 mem := by simp
 obj := fun i h st b hb => by
   rcases List.mem_cons.mp hb with rfl | hb
   · obtain ⟨⟨old, q⟩, _⟩ := st
     exact ⟨_, q, fun v z => by
       have z' : Data.fields _ = Data.cell v := z
       cases z'⟩
   · have e' := List.mem_singleton.mp hb
     subst e'
     obtain ⟨_, o, q, c, d⟩ := st
     exact ⟨o, q, fun v z => by rw [d] at z; cases z⟩
 keep := fun i h h' st k => by
   obtain ⟨⟨old, q⟩, t⟩ := st
   exact ⟨⟨old, k e (by simp) _ q⟩, t.at fun o z => k it (by simp) o z⟩
 item := by
   intro X hP hw hK hc i pins s σ H E I hf st hg
   subst hP hw hK
   obtain ⟨xs, x, hq, hx⟩ := hg
   obtain ⟨its, rv, p, hz⟩ := I.tuple hq
   obtain ⟨u, hu, ru⟩ := rv.get hx
   obtain ⟨⟨old, he⟩, hit⟩ := st
   obtain ⟨f0, f1, f2, f3, f4, f5⟩ := hf e (by simp)
   obtain ⟨g0, g1, g2, g3, g4, g5⟩ := hf it (by simp)
   have pt : s.heap.IsTuple a its.toArray := p
   obtain ⟨oe, hoe, _⟩ := id hit
   have hal : a ≠ it := fun z => by
     subst z
     obtain ⟨o1, q1, c1, _⟩ := pt
     obtain ⟨o2, q2, c2, _⟩ := hit
     rw [q1] at q2
     cases q2
     rw [c1] at c2
     exact absurd c2 (by decide)
   have hae : a ≠ e := fun z => by
     subst z
     obtain ⟨o1, q1, c1, _⟩ := pt
     rw [show s.heap.get? a = _ from he] at q1
     cases q1
     have c2 : Value.type "enumerate" = Value.type "tuple" := c1
     exact absurd c2 (by decide)
   have hef : e ∉ [it, a] := fun m => by
     rcases List.mem_cons.mp m with z | m
     · exact hei z
     · exact hae (List.mem_singleton.mp m).symm
   have hi : i < its.toArray.size := by
     have := (List.getElem?_eq_some_iff.mp hu).1
     simpa using this
   refine wpAny_pyNext_enum_itemD (draws_tup (A := X.A.in1) (I.ok.hd hc) it a hal its.toArray) he ⟨hit, pt⟩ hi hei hef fun y h' tk hy ho hst hT hsz hk => ?_
   have ey : y = u := by
     have : its.toArray[i]? = some u := by simpa using hu
     rw [this] at hy
     exact (Option.some.inj hy).symm
   subst ey
   have fr : H s.heap.objs.size = none := I.hok.fresh (Nat.le_refl _)
   refine ⟨_, rfl, ?_⟩
   refine wpAny_letOwnedTupleGo_enum (s := { s with heap := h', toks := tk + 1 }) ho fun h2 he2 sb => ?_
   have hlt : e < s.heap.objs.size := Heap.lt_size he
   have hlt2 : it < s.heap.objs.size := Heap.lt_size hoe
   have hT2 : h2.get? s.heap.objs.size = some { cls := .type "tuple", data := .seq #[.int i tk, y] } := (sb.2 _ (Nat.ne_of_gt hlt)).trans hT
   have hk2 : ∀ b o, b ≠ e → b ≠ it → s.heap.get? b = some o → h2.get? b = some o := fun b o z1 z2 q => (sb.2 b z1).trans (hk b o z1 z2 q)
   have it2 : h2.IsTupleIter it a (i + 1) := hst.1.at fun o z => (sb.2 it (Ne.symm hei)).trans z
   refine ⟨.ref s.heap.objs.size, upd H s.heap.objs.size (.tup [.int i, x]), ?_, rfl, ⟨_, x, fr, rfl, rfl, fun ys hy => by rw [I.tuple_inj hy hq]; exact hx⟩, ⟨⟨_, he2⟩, it2⟩, fun b hb => ?_⟩
   · have I1 : Inv X pins σ H { s with heap := h2, toks := tk + 1 } := I.turnedL (fp := [e, it]) (fun b o hb q => hk2 b o (fun z => hb (by simp [z])) (fun z => hb (by simp [z])) q) hf fun b hb => by
       rcases List.mem_cons.mp hb with rfl | hb
       · exact ⟨_, he2⟩
       · have e' := List.mem_singleton.mp hb
         subst e'
         obtain ⟨o, q, _⟩ := it2
         exact ⟨o, q⟩
     have ff := I.fpOk (b := s.heap.objs.size) (Nat.le_refl _) fr
     refine I1.track fr ff.2.2.2.1 ff.2.1 ff.2.2.2.2.1 ff.2.2.2.2.2 ⟨by show 2 ≤ sizeLine; decide, [.int i tk, y], .cons ⟨tk, rfl⟩ (.cons ru .nil), ⟨_, hT2, rfl, _, rfl⟩⟩
   · have hb' : b < s.heap.objs.size := by
       rcases List.mem_cons.mp hb with rfl | hb
       · exact hlt
       · have e' := List.mem_singleton.mp hb
         subst e'
         exact hlt2
     rw [Zc (Nat.ne_of_lt hb')]
     exact (hf b hb).1
 done := by
   intro X hP hw hK hc i pins s σ H E I hf st hg
   subst hP hw hK
   obtain ⟨xs, hq, hx⟩ := hg
   obtain ⟨its, rv, p, hz⟩ := I.tuple hq
   obtain ⟨⟨old, he⟩, hit⟩ := st
   have pt : s.heap.IsTuple a its.toArray := p
   have hl := rv.length
   unfold pyNext
   have hT : s.TypeIs (.ref e) "enumerate" := ⟨_, he, rfl⟩
   refine wpAny_bind (wpAny_attempt (wpAny_callSpecial?_slot (name := Str.ofString "__next__") hT F.slot_enumerate_next (wpAny_call_entry F.slot_enumerate_next hT F.entry_enumerate_next ?_ (F.args_enumerate_next_1 _))))
   show wpAny _ _ (field (.ref e) 2 >>= _) _ _ _
   refine wpAny_bind (wpAny_field he rfl (x := .ref it) rfl ?_)
   refine wpAny_bind (XI (A := X.A.in1) (I.ok.hd hc) hit pt (by simp; omega) fun h' ex hb hx' => ?_)
   obtain ⟨o, ho, hcl⟩ := hx'
   refine wpAny_bind (wpAny_isInstance (T := "StopIteration") (b := true) ⟨o, ho, hcl⟩ isSubtype_stop ?_)
   refine wpAny_pure ⟨rfl, ?_⟩
   obtain ⟨g0, g1, g2, g3, g4, g5⟩ := hf it (by simp)
   exact I.turned (t' := s.toks) (fun b o hb' q => hb b o hb' q) g0 g1 g3 g4 g5
 self := fun _ _ _ _ _ st h => by
   obtain ⟨⟨old, he⟩, _⟩ := st
   exact wpAny_pyIter_enum he h
section
variable {X : Cx}
def iEnumT (K : W.Frag) (ta : TA) : TI := fun σ H R => ta σ H fun vs H1 => ∃ a, vs = [.ref a] ∧ (∃ xs, SqT K H1 a xs) ∧ R (Ite K a) H1
theorem pi_enumT {a : Expr} {ta : TA} {p pos : Pos} {elts : List Expr} {k : Nat} {tpos : Pos} (hg : Gl X "enumerate") (hm : X.mg "enumerate" = none) (ha : PA X [a] ta) (hs : starEach [a] X.env = [(false, eval a X.env)] := by rfl) : PI X (.Tuple elts k tpos) (.Call (.Name "enumerate" p) [a] [] pos) (iEnumT X.K ta) := by
 intro pins s σ H R I h
 refine Call_ (VY I hg hm boot_enumerate (PyProof.Rows.callWith_type1 (thn (ha pos pins s σ H _ I h) fun us s1 ⟨vs, H1, I1, r1, q1⟩ => ?_) hs rfl))
 obtain ⟨b, e, ⟨xs, hq⟩, q⟩ := q1
 subst e
 obtain ⟨u, rfl, ru⟩ := r1.one
 cases ru
 obtain ⟨its, rv, pt, hz⟩ := I1.tuple hq
 refine call_enumT (show s1.heap.IsTuple b its.toArray from pt) fun h' he hit hsz hk => ?_
 refine wpAny_pyIter_enum (s := { s1 with heap := h' }) he ?_
 refine ⟨s1.heap.objs.size + 1, [s1.heap.objs.size + 1, s1.heap.objs.size], _, _, H1, rfl, I1.kept (t' := s1.toks) hk, turn_enumT b _ _ (Nat.succ_ne_self _), ⟨⟨_, he⟩, hit⟩, fun c hc => ?_, q⟩
 rcases List.mem_cons.mp hc with rfl | hc
 · exact I1.fpOk (Nat.le_succ _) (I1.hok.fresh (Nat.le_succ _))
 · have e' := List.mem_singleton.mp hc
   subst e'
   exact I1.fpOk (Nat.le_refl _) (I1.hok.fresh (Nat.le_refl _))
end
theorem for_enumT {K : PySem.W.Frag} {a : Addr} {xs : List V} {g : TG} {tb : TS} {D : Ends} {σ : St} {H : Hp} (Pv : Nat → St → Hp → Prop) (h0 : Pv 0 σ H) (hl : ∀ i σ H, i ≤ xs.length → Pv i σ H → SqT K H a xs)
   (hs : ∀ i x σ H T, xs[i]? = some x → Pv i σ H → H T = none → g (.ref T) σ (upd H T (.tup [.int i, x])) fun σ2 H2 => tb { D with nx := Pv (i + 1), ct := Pv (i + 1), bk := D.nx } σ2 H2) (hd : ∀ σ H, Pv xs.length σ H → D.nx σ H) :
   ∃ W : Nat → Nat → St → Hp → Prop, (∃ m, W 0 m σ H) ∧ ∀ i m σ H, W i m σ H →
     ((Ite K a).stop i H ∧ D.nx σ H) ∨ ((Ite K a).go i H ∧ ∃ N : St → Hp → Prop, (∀ σ' H', N σ' H' → ∃ m', m' < m ∧ W (i + 1) m' σ' H') ∧ ∀ x H', (Ite K a).yld i H x H' → g x σ H' fun σ2 H2 => tb { D with nx := N, ct := N, bk := D.nx } σ2 H2) := by
 refine ⟨fun i m σ H => m = xs.length - i ∧ i ≤ xs.length ∧ Pv i σ H, ⟨xs.length, by simp, Nat.zero_le _, h0⟩, ?_⟩
 rintro i m σ H ⟨rfl, hi, p⟩
 have q := hl i σ H hi p
 by_cases hlt : i < xs.length
 · refine .inr ⟨⟨xs, xs[i], q, by simp [hlt]⟩, Pv (i + 1), fun σ' H' p' => ⟨xs.length - (i + 1), by omega, rfl, hlt, p'⟩, fun x H' y => ?_⟩
   obtain ⟨T, z, nT, e, e2, y⟩ := y
   subst e e2
   exact hs i z σ _ T (y xs q) p nT
 · have e : i = xs.length := by omega
   subst e
   exact .inl ⟨⟨xs, q, Nat.le_refl _⟩, hd σ H p⟩
section
variable {prog : Program} {w : World} {A : Around} {R : Result → Shared → Prop} {I S : Addr} {fp wr : List Addr} {n : Nat} {P : Nat → Value → Prop} {St : Nat → Heap → Prop} {bt : Nat → Nat → Bool} {Gd : Heap → Prop} {kw : List (Str × Value)}
end
section
variable {prog : Program} {w : World} {A : Around} {E : Value → Shared → Prop} {s : Shared}
end
section
variable {X : Cx}
end
end L2
end
section
namespace L2
open PySem PySem.Spec PyProof.Rows
theorem Zq {K : W.Frag} {C : Addr} {v : Value} {b : Bool} (h : W.mroIn K C v = some b) : (W.clsIn K C).isSome = true := by
 unfold W.mroIn at h
 cases e : W.clsIn K C with
 | none => rw [e] at h; cases h
 | some cd => rfl
theorem XL {K : W.Frag} {t : Value} : W.kitOne K t t = some true := by
 unfold W.kitOne
 rw [if_pos (by simp)]
theorem Uu {K : W.Frag} {t : Value} {C : Addr} {b : Bool} (h1 : W.typeIn K (.ref C) = some (.type "type")) (h2 : (W.clsIn K C).isSome = true) (h : W.subIn K t (.ref C) = some b) (hb : b = true ∨ (t == .ref C) = false := by first | exact .inl rfl | exact .inr rfl) : W.kitOne K t (.ref C) = some b := by
 unfold W.kitOne
 by_cases e : (t == Value.ref C) = true
 · rw [if_pos e]
   rcases hb with hb | hb
   · rw [hb]
   · rw [hb] at e; cases e
 · rw [if_neg e]
   show (if ((W.clsIn K C).isSome && W.typeIn K (.ref C) == some (.type "type")) = true then W.subIn K t (.ref C) else none) = _
   rw [h1, h2]
   exact h
theorem YD {K : W.Frag} {D C : Addr} (h1 : W.typeIn K (.ref C) = some (.type "type")) (h2 : (W.clsIn K C).isSome = true) (h : W.subIn K (.ref D) (.ref C) = some false) (h3 : W.subIn K (.ref D) (.ref D) = some true) : W.kitOne K (.ref D) (.ref C) = some false := by
 refine Uu h1 h2 h (.inr ?_)
 have ne : D ≠ C := fun z => by
   subst z
   rw [h] at h3
   cases h3
 exact beq_eq_false_iff_ne.mpr fun z => ne (by injection z)
theorem Tf {K : W.Frag} {t : Value} {T : String} {b : Bool} (h1 : W.kitMeta T = true) (h : W.subIn K t (.type T) = some b) (hb : b = true ∨ (t == .type T) = false := by first | exact .inl rfl | exact .inr rfl) : W.kitOne K t (.type T) = some b := by
 unfold W.kitOne
 by_cases e : (t == Value.type T) = true
 · rw [if_pos e]
   rcases hb with hb | hb
   · rw [hb]
   · rw [hb] at e; cases e
 · rw [if_neg e]
   show (if W.kitMeta T = true then W.subIn K t (.type T) else none) = _
   rw [if_pos h1]
   exact h
end L2
end
section
namespace L2
open PySem PySem.Spec PyProof.Rows
def Vf (J : It) (fv : List (Option Nat)) (jx : Nat) (tc : TT) (te : TE) (σ : St) (H1 : Hp) (Q : VK) : Prop :=
 ∃ W : Nat → Nat → List V → Hp → Prop, (∃ m, W 0 m [] H1) ∧ ∀ i m ys H, W i m ys H → ys.length < sizeLine ∧
 ((J.stop i H ∧ ∀ acc, H acc = none → Q (.ref acc) (upd H acc (.lst ys))) ∨ (J.go i H ∧ ∀ v H', J.yld i H v H' → tc ((blk fv σ).set jx (some v)) H' fun b H2 => if b = true then te ((blk fv σ).set jx (some v)) H2 fun y H3 => ∃ m', m' < m ∧ W (i + 1) m' (ys ++ [y]) H3 else ∃ m', m' < m ∧ W (i + 1) m' ys H2))
theorem TX {K : W.Frag} {a : Addr} {xs : List V} {fv : List (Option Nat)} {jx : Nat} {te : TE} {σ : St} {H : Hp} {Q : VK} (Pv : Nat → List V → Hp → Prop) (h0 : Pv 0 [] H)
   (hl : ∀ i ys H, i ≤ xs.length → Pv i ys H → SqL K H a xs ∧ ys.length < sizeLine)
   (hs : ∀ i x ys H (Q' : VK), xs[i]? = some x → Pv i ys H → (∀ y H3, Pv (i + 1) (ys ++ [y]) H3 → Q' y H3) → te ((blk fv σ).set jx (some x)) H Q')
   (hd : ∀ ys H, Pv xs.length ys H → ∀ acc, H acc = none → Q (.ref acc) (upd H acc (.lst ys))) : Vf (Itl K a) fv jx (fun _ H Q => Q true H) te σ H Q := by
 refine ⟨fun i m ys H => m = xs.length - i ∧ i ≤ xs.length ∧ Pv i ys H, ⟨xs.length, by simp, Nat.zero_le _, h0⟩, ?_⟩
 rintro i m ys H ⟨rfl, hi, p⟩
 obtain ⟨q, hz⟩ := hl i ys H hi p
 refine ⟨hz, ?_⟩
 by_cases hlt : i < xs.length
 · refine .inr ⟨⟨xs, xs[i], q, by simp [hlt]⟩, fun x H' y => ?_⟩
   obtain ⟨e, y⟩ := y
   subst e
   refine iteT ?_
   exact hs i x ys _ _ (y xs q) p fun y H3 p3 => ⟨xs.length - (i + 1), by omega, rfl, hlt, p3⟩
 · have e : i = xs.length := by omega
   subst e
   exact .inl ⟨⟨xs, q, Nat.le_refl _⟩, hd ys H p⟩
def tCompA (wi : TI) (fv : List (Option Nat)) (jx : Nat) (tc : TT) (te : TE) : TE := fun σ H Q => wi σ H fun J H1 => Vf J fv jx tc te σ H1 Q
section
variable {X : Cx} {scope : Scope} {cl : List (Str × Addr)} {NB : List Str} {fv : List (Option Nat)} {x y : Str} {px py pos spos : Pos} {elt iter : Expr} {ifs : List Expr} {jx iy : Nat} {wi : TI} {tc : TT} {te : TE}
theorem VA (hc : X.calm = true) (O : CompOk X scope cl NB fv) (hi : PI X (.Name x px) iter wi) (hx : scope.names.lookup x = some .local) (hjx : NB[jx]? = some x) (hfx : fv[jx]? = some none) (hC : ∀ s0 H0 ex, PIfs (XS X NB scope cl s0 H0 ex) ifs tc)
   (hE : ∀ s0 H0 ex, PE (XS X NB scope cl s0 H0 ex) elt te) (hs : ∀ x, foldedSetIterable iter X.env x = pure x := by intro _; rfl) : PE X (.ListComp elt [⟨.Name x px, iter, ifs, 0⟩] scope pos) (tCompA wi fv jx tc te) :=
 pe_comp hc O hi hx hjx hfx hC hE hs
end
theorem Xi {X : Cx} {x : Str} {i : Int} {t : Tok} {pos : Pos} (hm : X.mg x = some (.int i t)) (hg : Gl X x := by rfl) (hd : (x == ("__debug__" : Str)) = false := by decide) : PE X (.Name x pos) (tC (.int i)) := pe_glob (v := .int i) hg hm ⟨t, rfl⟩ hd
theorem pe_bty {X : Cx} {x : Str} {T : String} {pos : Pos} (hm : X.mg x = none) (hv : bootBuiltins x = some (.type T)) (hg : Gl X x := by rfl) (hn : x ≠ "__name__" := by decide) (hd : (x == ("__debug__" : Str)) = false := by decide) : PE X (.Name x pos) (tC (.ty T)) := pe_bltn (v := .ty T) hg hm hv rfl hn hd
end L2
end
section
namespace L2
open PySem PySem.Spec PyProof.Rows
structure TSem (X : Cx) (sts : List Stmt) (D : Ends) (σ : St) (H : Hp) : Prop where
 run : ∀ (pins : List (Addr × Obj)) (s : Shared), Inv X pins σ H s → wpAny (model X.prog X.w) X.A (execs sts X.env) (SP X pins D) X.xe s
abbrev tSem (X : Cx) (sts : List Stmt) : TS := TSem X sts
theorem YZ {X : Cx} {sts : List Stmt} : PSs X sts (tSem X sts) := fun pins s σ H D I h => h.run pins s I
theorem Zz {X : Cx} {st : Stmt} {rest : List Stmt} {t : TS} {D : Ends} {σ : St} {H : Hp} (h1 : PS X st t) (h : t { D with nx := tSem X rest D } σ H) : TSem X (st :: rest) D σ H := ⟨fun pins s I => Zg h1 YZ pins s σ H D I h⟩
theorem Xy {X : Cx} {st : Stmt} {t : TS} {D : Ends} {σ : St} {H : Hp} (h1 : PS X st t) (h : t D σ H) : TSem X [st] D σ H := ⟨fun pins s I => Zi h1 pins s σ H D I h⟩
def litV : Expr → Option V
 | .Constant (.int i) _ _ => some (.int i)
 | .Constant (.str x) _ _ => some (.str x)
 | .Constant .none _ _ => some .non
 | .Constant (.bool b) _ _ => some (.bl b)
 | .UnaryOp .USub (.Constant (.int i) _ _) _ => some (.int (-i))
 | _ => none
def litVs : List Expr → Option (List V)
 | [] => some []
 | e :: es => (litV e).bind fun v => (litVs es).map fun vs => v :: vs
theorem lit_ok {X : Cx} {e : Expr} {v : V} (h : litV e = some v) : PE X e (tC v) ∧ ∀ es, starEach (e :: es) X.env = (false, eval e X.env) :: starEach es X.env := by
 unfold litV at h
 split at h
 · cases h; exact ⟨Zj, fun _ => rfl⟩
 · cases h; exact ⟨Yc, fun _ => rfl⟩
 · cases h; exact ⟨YM, fun _ => rfl⟩
 · cases h; exact ⟨pe_bl, fun _ => rfl⟩
 · cases h
   exact ⟨fun pins s σ H Q I q => pe_un un_neg Zj pins s σ H Q I ⟨_, rfl, q⟩, fun _ => rfl⟩
 · cases h
theorem pa_lits {X : Cx} : ∀ {es : List Expr} {vs : List V}, litVs es = some vs → PA X es (fun _ H Q => Q vs H)
 | [], vs, h => by
   cases h
   exact Zf
 | e :: es, vs, h => by
   unfold litVs at h
   cases h1 : litV e with
   | none => rw [h1] at h; cases h
   | some v =>
     rw [h1] at h
     cases h2 : litVs es with
     | none => rw [h2] at h; cases h
     | some ws =>
       rw [h2] at h
       cases h
       obtain ⟨a, b⟩ := lit_ok (X := X) h1
       exact Za a (pa_lits h2) (b es)
theorem pe_litL {X : Cx} {L : Expr} {es : List Expr} {vs : List V} {pos : Pos} (hL : Expr.List es pos = L) (h : litVs es = some vs) : PE X L (fun _ H Q => vs.length ≤ sizeLine ∧ ∀ p, H p = none → Q (.ref p) (upd H p (.lst vs))) := by
 subst hL
 exact YX (pa_lits h)
end L2
end
section
namespace Mir
section
variable {ν : Type}
inductive Steps (goal : Int) (f : Fn ν) : List (Int × Int × ν) → Fn ν → Prop where
 | nil : Steps goal f [] f
 | snoc {g : Fn ν} {n : Int} {a : Al ν} {l : List (Int × Int × ν)} : Steps goal f l g → Next goal g n a → Steps goal f (l ++ [(a.tick, n, a.name)]) (fput g n (after a))
theorem Steps.runs {goal : Int} {f g h : Fn ν} {l m : List (Int × Int × ν)} (x : Steps goal f l g) : Runs goal g m h → Runs goal f (l ++ m) h := by
 induction x generalizing m with
 | nil => exact fun y => y
 | snoc s nx ih =>
   intro y
   rw [List.append_assoc]
   exact ih (.ring nx y)
theorem Steps.trans {goal : Int} {f g h : Fn ν} {l m : List (Int × Int × ν)} (x : Steps goal f l g) (y : Steps goal g m h) : Steps goal f (l ++ m) h := by
 induction y with
 | nil => rw [List.append_nil]; exact x
 | snoc s nx ih => rw [← List.append_assoc]; exact .snoc ih nx
theorem Steps.stop {goal : Int} {f g : Fn ν} {l : List (Int × Int × ν)} (x : Steps goal f l g) (h : ∀ n a, g n = some a → goal < a.tick) : Runs goal f l g := by
 have := x.runs (.stop h)
 rw [List.append_nil] at this
 exact this
def GoodF (N : Nat) (f : Fn ν) : Prop := ∀ n a, f n = some a → (0 ≤ n ∧ n < N) ∧ ∀ k, a.step = some k → 0 < k
theorem GoodF.ring {N : Nat} {f : Fn ν} (g : GoodF N f) {n : Int} {a : Al ν} (h : f n = some a) : GoodF N (fput f n (after a)) := by
 intro m b e
 by_cases hm : m = n
 · subst hm
   rw [ZF] at e
   unfold after at e
   cases hs : a.step with
   | none => rw [hs] at e; cases e
   | some q =>
     rw [hs] at e
     cases e
     exact ⟨(g m a h).1, fun k hk => (g m a h).2 k (by rw [hs]; exact hk)⟩
 · rw [ZW _ _ hm] at e
   exact g m b e
def muF (goal : Int) (N : Nat) (f : Fn ν) : Nat := ((List.range N).map fun (i : Nat) => cntO goal (f (i : Int))).sum
theorem sum_change {N i : Nat} {g h : Nat → Nat} (hi : i < N) (e : h i + 1 = g i) (same : ∀ j, j ≠ i → h j = g j) : ((List.range N).map h).sum + 1 = ((List.range N).map g).sum := by
 induction N with
 | zero => omega
 | succ N ih =>
   rw [List.range_succ, List.map_append, List.map_append, List.sum_append, List.sum_append]
   simp only [List.map_cons, List.map_nil, List.sum_cons, List.sum_nil]
   by_cases h1 : i = N
   · subst h1
     have : ((List.range i).map h) = ((List.range i).map g) := by
       apply List.map_congr_left
       intro j hj
       have := List.mem_range.mp hj
       exact same j (by omega)
     rw [this]
     omega
   · have := ih (by omega)
     have := same N (fun z => h1 z.symm)
     omega
theorem muF_ring {goal : Int} {N : Nat} {f : Fn ν} (g : GoodF N f) {n : Int} {a : Al ν} (nx : Next goal f n a) : muF goal N (fput f n (after a)) + 1 = muF goal N f := by
 obtain ⟨⟨h0, h1⟩, hs⟩ := g n a nx.there
 refine sum_change (i := n.toNat) (by omega) ?_ fun j hj => ?_
 · have e : ((n.toNat : Nat) : Int) = n := by omega
   rw [e, ZF, nx.there]
   exact TZ nx.due hs
 · rw [ZW _ _ (by omega)]
theorem Steps.good {goal : Int} {N : Nat} {f g : Fn ν} {l : List (Int × Int × ν)} (x : Steps goal f l g) (hf : GoodF N f) : GoodF N g ∧ l.length + muF goal N g = muF goal N f := by
 induction x with
 | nil => exact ⟨hf, by simp⟩
 | snoc s nx ih =>
   obtain ⟨a, b⟩ := ih
   have := muF_ring a nx
   refine ⟨a.ring nx.there, ?_⟩
   rw [List.length_append, List.length_singleton]
   omega
end
end Mir
end
section
namespace Rk
open Mir
def levFrom (S now due : Int) : Nat → Nat → Nat
 | 0, i => i
 | n + 1, i => if now / S ^ (i + 1) = due / S ^ (i + 1) then i else levFrom S now due n (i + 1)
def lv (S : Int) (n : Nat) (now due : Int) : Nat := levFrom S now due n 0
theorem Xa (S now due : Int) : ∀ n i, i ≤ levFrom S now due n i ∧ levFrom S now due n i ≤ i + n ∧ (∀ j, i ≤ j → j < levFrom S now due n i → now / S ^ (j + 1) ≠ due / S ^ (j + 1)) ∧
   (levFrom S now due n i < i + n → now / S ^ (levFrom S now due n i + 1) = due / S ^ (levFrom S now due n i + 1))
 | 0, i => by simp [levFrom]; intro j h1 h2; omega
 | n + 1, i => by
   by_cases h : now / S ^ (i + 1) = due / S ^ (i + 1)
   · have e : levFrom S now due (n + 1) i = i := by rw [levFrom, if_pos h]
     rw [e]
     exact ⟨Nat.le_refl _, by omega, fun j h1 h2 => by omega, fun _ => h⟩
   · have e : levFrom S now due (n + 1) i = levFrom S now due n (i + 1) := by rw [levFrom, if_neg h]
     obtain ⟨a, b, c, d⟩ := Xa S now due n (i + 1)
     rw [e]
     refine ⟨by omega, by omega, fun j h1 h2 => ?_, fun h3 => d (by omega)⟩
     by_cases hj : j = i
     · subst hj; exact h
     · exact c j (by omega) h2
theorem Td (S : Int) (n : Nat) (now due : Int) : lv S n now due ≤ n := by have := (Xa S now due n 0).2.1; unfold lv; omega
theorem lv_ne {S : Int} {n : Nat} {now due : Int} {j : Nat} (h : j < lv S n now due) : now / S ^ (j + 1) ≠ due / S ^ (j + 1) := (Xa S now due n 0).2.2.1 j (Nat.zero_le _) h
theorem lv_eq {S : Int} {n : Nat} {now due : Int} (h : lv S n now due < n) : now / S ^ (lv S n now due + 1) = due / S ^ (lv S n now due + 1) := (Xa S now due n 0).2.2.2 (by unfold lv at h; omega)
theorem lv_of {S : Int} {n : Nat} {now due : Int} {L : Nat} (hL : L ≤ n) (h1 : ∀ j, j < L → now / S ^ (j + 1) ≠ due / S ^ (j + 1)) (h2 : L < n → now / S ^ (L + 1) = due / S ^ (L + 1)) : lv S n now due = L := by
 rcases Nat.lt_trichotomy (lv S n now due) L with h | h | h
 · exact absurd (lv_eq (Nat.lt_of_lt_of_le h hL)) (h1 _ h)
 · exact h
 · exact absurd (h2 (Nat.lt_of_lt_of_le h (Td S n now due))) (lv_ne h)
theorem pow_pos {S : Int} (hS : 0 < S) (i : Nat) : 0 < S ^ i := Int.pow_pos hS
theorem div_div {a b c : Int} (hb : 0 < b) : a / b / c = a / (b * c) := by
 rw [Int.ediv_ediv, if_neg (by omega)]
 omega
theorem div_pow_eq {S : Int} (hS : 0 < S) {a b : Int} {i j : Nat} (h : a / S ^ i = b / S ^ i) (hij : i ≤ j) : a / S ^ j = b / S ^ j := by
 have e : S ^ j = S ^ i * S ^ (j - i) := by rw [← Int.pow_add]; congr 1; omega
 rw [e, ← div_div (pow_pos hS i), ← div_div (pow_pos hS i), h]
def st (S : Int) (n : Nat) (now due : Int) : Int := due / S ^ lv S n now due * S ^ lv S n now due
theorem UG {S : Int} (hS : 0 < S) (n : Nat) (now due : Int) : st S n now due ≤ due := Int.ediv_mul_le _ (Int.ne_of_gt (pow_pos hS _))
theorem lt_st {S : Int} (hS : 0 < S) {n : Nat} {now due : Int} (h : now < due) : now < st S n now due := by
 unfold st
 cases e : lv S n now due with
 | zero => simp; exact h
 | succ L =>
   have ne := lv_ne (S := S) (n := n) (now := now) (due := due) (j := L) (by omega)
   have p := pow_pos hS (L + 1)
   have le : now / S ^ (L + 1) ≤ due / S ^ (L + 1) := Int.ediv_le_ediv p (Int.le_of_lt h)
   have lt : now / S ^ (L + 1) < due / S ^ (L + 1) := by omega
   exact (Int.ediv_lt_iff_lt_mul p).mp lt
theorem lv_stay {S : Int} (hS : 0 < S) {n : Nat} {now t due : Int} (h1 : now ≤ t) (h2 : t < st S n now due) : lv S n t due = lv S n now due := by
 have hd : t < due := Int.lt_of_lt_of_le h2 (UG hS n now due)
 refine lv_of (Td _ _ _ _) (fun j hj e => ?_) fun hl => ?_
 · have e2 := div_pow_eq hS (i := j + 1) (j := lv S n now due) e hj
   have p := pow_pos hS (lv S n now due)
   have : t / S ^ lv S n now due < due / S ^ lv S n now due := (Int.ediv_lt_iff_lt_mul p).mpr h2
   omega
 · have e := lv_eq hl
   have p := pow_pos hS (lv S n now due + 1)
   have a := Int.ediv_le_ediv p h1
   have b := Int.ediv_le_ediv p (Int.le_of_lt hd)
   omega
theorem Ta {S : Int} (hS : 0 < S) {n : Nat} {now a b : Int} (hb : now < b) (h : lv S n now a < lv S n now b) : a < st S n now b := by
 have hl : lv S n now a < n := Nat.lt_of_lt_of_le h (Td _ _ _ _)
 have e := lv_eq hl
 have p := pow_pos hS (lv S n now a + 1)
 have q := lt_st hS (n := n) hb
 have a1 : a < (now / S ^ (lv S n now a + 1) + 1) * S ^ (lv S n now a + 1) := by rw [e]; exact Int.lt_ediv_add_one_mul_self a p
 have ee : S ^ lv S n now b = S ^ (lv S n now b - (lv S n now a + 1)) * S ^ (lv S n now a + 1) := by rw [← Int.pow_add]; congr 1; omega
 have b1 : st S n now b = (b / S ^ lv S n now b * S ^ (lv S n now b - (lv S n now a + 1))) * S ^ (lv S n now a + 1) := by
   unfold st
   rw [Int.mul_assoc, ← ee]
 have b2 : now / S ^ (lv S n now a + 1) < b / S ^ lv S n now b * S ^ (lv S n now b - (lv S n now a + 1)) := (Int.ediv_lt_iff_lt_mul p).mpr (by rw [← b1]; exact q)
 have b3 : (now / S ^ (lv S n now a + 1) + 1) * S ^ (lv S n now a + 1) ≤ (b / S ^ lv S n now b * S ^ (lv S n now b - (lv S n now a + 1))) * S ^ (lv S n now a + 1) := Int.mul_le_mul_of_nonneg_right (by omega) (Int.le_of_lt p)
 rw [b1]
 omega
theorem st_inj {S : Int} (hS : 0 < S) {n : Nat} {now a b : Int} (ha : now < a) (hb : now < b) (hs : st S n now a = st S n now b) : lv S n now a = lv S n now b := by
 rcases Nat.lt_trichotomy (lv S n now a) (lv S n now b) with h | h | h
 · have := Ta hS hb h
   have := UG hS n now a
   omega
 · exact h
 · have := Ta hS ha h
   have := UG hS n now b
   omega
end Rk
end
section
namespace Rk
open Mir
structure RowS where
 span : Int
 filled : Dct (List Int)
 rising : List Int
def pos (l : List Int) (v : Int) : Nat := l.countP (fun x => decide (x < v))
def VE (l : List Int) (i : Nat) (v : Int) : List Int := l.take i ++ v :: l.drop i
def putN (ns : List Int) (n : Int) : List Int := if n ∈ ns then ns else ns ++ [n]
def ZJ (r : RowS) (s : Int) : RowS := if (get r.filled s).isSome = true then r else ⟨r.span, put r.filled s [], VE r.rising (pos r.rising s) s⟩
def setSlot (r : RowS) (s : Int) (ns : List Int) : RowS := ⟨r.span, put r.filled s ns, r.rising⟩
def Vl (r : RowS) (n s : Int) : RowS := setSlot (ZJ r s) s (putN ((get (ZJ r s).filled s).getD []) n)
def Uq (r : RowS) (s : Int) : RowS := ⟨r.span, drop r.filled s, r.rising.eraseIdx (pos r.rising s)⟩
theorem pos_le (l : List Int) (v : Int) : pos l v ≤ l.length := List.countP_le_length
theorem Xq {v : Int} : ∀ {l : List Int}, l.Pairwise (· < ·) → ∀ (i : Nat) x, l[i]? = some x → (x < v ↔ i < pos l v)
 | [], _, i, x, h => by simp at h
 | a :: r, hp, i, x, h => by
   obtain ⟨h1, h2⟩ := List.pairwise_cons.mp hp
   have ih := Xq (v := v) h2
   by_cases ha : a < v
   · have e : pos (a :: r) v = pos r v + 1 := by unfold pos; rw [List.countP_cons_of_pos (by simpa using ha)]
     rw [e]
     cases i with
     | zero => simp at h; subst h; simp [ha]
     | succ i =>
       have := ih i x (by simpa using h)
       omega
   · have e0 : pos (a :: r) v = pos r v := by unfold pos; rw [List.countP_cons_of_neg (by simpa using ha)]
     have e1 : pos r v = 0 := by
       unfold pos
       rw [List.countP_eq_zero]
       intro y hy
       have := h1 y hy
       simp
       omega
     rw [e0, e1]
     cases i with
     | zero => simp at h; subst h; simp; omega
     | succ i =>
       have hm : x ∈ r := List.mem_of_getElem? (by simpa using h)
       have := h1 x hm
       omega
theorem mem_take_lt {l : List Int} {v : Int} (hp : l.Pairwise (· < ·)) {x : Int} (h : x ∈ l.take (pos l v)) : x < v := by
 obtain ⟨i, hi, e⟩ := List.mem_take_iff_getElem.mp h
 refine (Xq hp i x ?_).mpr (by omega)
 rw [← e]
 simp
theorem mem_drop_ge {l : List Int} {v : Int} (hp : l.Pairwise (· < ·)) {x : Int} (h : x ∈ l.drop (pos l v)) : v ≤ x := by
 obtain ⟨i, hi, e⟩ := List.mem_drop_iff_getElem.mp h
 have q := (Xq (v := v) hp (pos l v + i) x (by rw [← e]; simp))
 omega
theorem mem_insAt {l : List Int} {i : Nat} {v x : Int} : x ∈ VE l i v ↔ x = v ∨ x ∈ l := by
 unfold VE
 constructor
 · intro h
   rcases List.mem_append.mp h with h | h
   · exact .inr (List.mem_of_mem_take h)
   · rcases List.mem_cons.mp h with h | h
     · exact .inl h
     · exact .inr (List.mem_of_mem_drop h)
 · rintro (rfl | h)
   · exact List.mem_append.mpr (.inr List.mem_cons_self)
   · have : x ∈ l.take i ++ l.drop i := by rw [List.take_append_drop]; exact h
     rcases List.mem_append.mp this with q | q
     · exact List.mem_append.mpr (.inl q)
     · exact List.mem_append.mpr (.inr (List.mem_cons_of_mem _ q))
theorem srt_insAt {l : List Int} {v : Int} (hp : l.Pairwise (· < ·)) (hv : v ∉ l) : (VE l (pos l v) v).Pairwise (· < ·) := by
 unfold VE
 have hd : ∀ x ∈ l.drop (pos l v), v < x := fun x hx => by
   have := mem_drop_ge hp hx
   have : x ≠ v := fun z => hv (z ▸ List.mem_of_mem_drop hx)
   omega
 refine List.pairwise_append.mpr ⟨hp.sublist (List.take_sublist _ _), List.pairwise_cons.mpr ⟨hd, hp.sublist (List.drop_sublist _ _)⟩, fun a ha b hb => ?_⟩
 have h1 := mem_take_lt hp ha
 rcases List.mem_cons.mp hb with rfl | hb
 · exact h1
 · have := hd b hb
   omega
theorem at_pos {l : List Int} {v : Int} (hp : l.Pairwise (· < ·)) (hv : v ∈ l) : l[pos l v]? = some v := by
 obtain ⟨i, hi, e⟩ := List.mem_iff_getElem.mp hv
 have q := Xq (v := v) hp i v (by rw [← e]; simp [hi])
 have hle : pos l v ≤ i := by omega
 rcases Nat.lt_or_ge (pos l v) i with z | z
 · have hj : pos l v < l.length := by omega
   have q2 := Xq (v := v) hp (pos l v) l[pos l v] (by simp [hj])
   have q3 : l[pos l v] < l[i] := List.pairwise_iff_getElem.mp hp _ _ hj hi z
   omega
 · have e2 : pos l v = i := by omega
   rw [e2, ← e]
   simp [hi]
theorem VB {l : List Int} (hp : l.Pairwise (· < ·)) : l.Nodup := hp.imp fun h => Int.ne_of_lt h
theorem mem_erase {l : List Int} {v x : Int} (hp : l.Pairwise (· < ·)) (hv : v ∈ l) : x ∈ l.eraseIdx (pos l v) ↔ x ∈ l ∧ x ≠ v := by
 have e := at_pos hp hv
 obtain ⟨hk, ev⟩ := List.getElem?_eq_some_iff.mp e
 rw [List.mem_eraseIdx_iff_getElem]
 constructor
 · rintro ⟨i, hi, hne, rfl⟩
   refine ⟨List.getElem_mem hi, fun z => ?_⟩
   rcases Nat.lt_trichotomy i (pos l v) with q | q | q
   · have := List.pairwise_iff_getElem.mp hp _ _ hi hk q
     omega
   · exact hne q
   · have := List.pairwise_iff_getElem.mp hp _ _ hk hi q
     omega
 · rintro ⟨hm, hne⟩
   obtain ⟨i, hi, rfl⟩ := List.mem_iff_getElem.mp hm
   exact ⟨i, hi, fun z => hne (by subst z; exact ev), rfl⟩
theorem srt_of_perm {l m : List Int} (hp : l.Perm m) (hs : l.Pairwise (· ≤ ·)) (hn : m.Nodup) : l.Pairwise (· < ·) ∧ ∀ x, x ∈ l ↔ x ∈ m := by
 have hn' : l.Nodup := hp.nodup_iff.mpr hn
 exact ⟨hs.imp₂ (fun a b h1 h2 => by omega) hn', fun x => hp.mem_iff⟩
structure RowOK (r : RowS) (g : Int → Option Int) : Prop where
 sp : 0 < r.span
 ndk : (keys r.filled).Nodup
 srt : r.rising.Pairwise (· < ·)
 mem : ∀ s, s ∈ r.rising ↔ (get r.filled s).isSome = true
 nd : ∀ s ns, get r.filled s = some ns → ns.Nodup
 ne : ∀ s ns, get r.filled s = some ns → ns ≠ []
 has : ∀ n s, (∃ ns, get r.filled s = some ns ∧ n ∈ ns) ↔ ∃ t, g n = some t ∧ t / r.span = s
def gput (g : Int → Option Int) (n : Int) (o : Option Int) : Int → Option Int := fun m => if m = n then o else g m
theorem mem_putN {ns : List Int} {n m : Int} : m ∈ putN ns n ↔ m = n ∨ m ∈ ns := by
 unfold putN
 by_cases h : n ∈ ns
 · rw [if_pos h]
   exact ⟨.inr, fun z => z.elim (fun e => e ▸ h) id⟩
 · rw [if_neg h, List.mem_append, List.mem_singleton]
   exact ⟨fun z => z.elim .inr .inl, fun z => z.elim .inr .inl⟩
theorem nd_putN {ns : List Int} {n : Int} (h : ns.Nodup) : (putN ns n).Nodup := by
 unfold putN
 by_cases hn : n ∈ ns
 · rw [if_pos hn]; exact h
 · rw [if_neg hn, List.nodup_append]
   refine ⟨h, by simp, fun a ha b hb e => ?_⟩
   have : b = n := by simpa using hb
   subst this
   exact hn (e ▸ ha)
theorem Vk (r : RowS) (s x : Int) : get (ZJ r s).filled x = if x = s then some ((get r.filled s).getD []) else get r.filled x := by
 unfold ZJ
 by_cases h : (get r.filled s).isSome = true
 · rw [if_pos h]
   by_cases e : x = s
   · subst e
     rw [if_pos rfl]
     obtain ⟨v, hv⟩ := Option.isSome_iff_exists.mp h
     rw [hv]
     rfl
   · rw [if_neg e]
 · rw [if_neg h]
   show get (put r.filled s []) x = _
   rw [Zw]
   have hn : get r.filled s = none := by simpa using h
   rw [hn]
   rfl
theorem XC (r : RowS) (s : Int) : (ZJ r s).span = r.span := by unfold ZJ; by_cases h : (get r.filled s).isSome = true <;> simp [h]
theorem slotIn_mem {r : RowS} {g : Int → Option Int} (R : RowOK r g) (s x : Int) : x ∈ (ZJ r s).rising ↔ x = s ∨ x ∈ r.rising := by
 unfold ZJ
 by_cases h : (get r.filled s).isSome = true
 · rw [if_pos h]
   exact ⟨.inr, fun z => z.elim (fun e => e ▸ (R.mem s).mpr h) id⟩
 · rw [if_neg h]
   exact mem_insAt
theorem slotIn_srt {r : RowS} {g : Int → Option Int} (R : RowOK r g) (s : Int) : (ZJ r s).rising.Pairwise (· < ·) := by
 unfold ZJ
 by_cases h : (get r.filled s).isSome = true
 · rw [if_pos h]; exact R.srt
 · rw [if_neg h]
   exact srt_insAt R.srt fun z => h ((R.mem s).mp z)
theorem slotIn_ndk {r : RowS} {g : Int → Option Int} (R : RowOK r g) (s : Int) : (keys (ZJ r s).filled).Nodup := by
 unfold ZJ
 by_cases h : (get r.filled s).isSome = true
 · rw [if_pos h]; exact R.ndk
 · rw [if_neg h]; exact YO R.ndk _ _
theorem Xt (r : RowS) (n s x : Int) : get (Vl r n s).filled x = if x = s then some (putN ((get r.filled s).getD []) n) else get r.filled x := by
 show get (put (ZJ r s).filled s _) x = _
 rw [Zw, Vk, Vk]
 by_cases e : x = s
 · simp [e]
 · simp [e]
theorem rowPut_ok {r : RowS} {g : Int → Option Int} (R : RowOK r g) {n t : Int} (hn : g n = none) : RowOK (Vl r n (t / r.span)) (gput g n (some t)) where
 sp := by show 0 < (ZJ r _).span; rw [XC]; exact R.sp
 ndk := YO (slotIn_ndk R _) _ _
 srt := slotIn_srt R _
 mem := fun s => by
   show s ∈ (ZJ r _).rising ↔ _
   rw [slotIn_mem R, Xt]
   by_cases e : s = t / r.span
   · simp [e]
   · simp only [e, false_or, if_false]
     exact R.mem s
 nd := fun s ns h => by
   rw [Xt] at h
   by_cases e : s = t / r.span
   · rw [if_pos e] at h
     cases h
     refine nd_putN ?_
     cases q : get r.filled (t / r.span) with
     | none => simp
     | some l => exact R.nd _ _ q
   · rw [if_neg e] at h
     exact R.nd _ _ h
 ne := fun s ns h z => by
   rw [Xt] at h
   by_cases e : s = t / r.span
   · rw [if_pos e] at h
     cases h
     have : n ∈ putN ((get r.filled (t / r.span)).getD []) n := mem_putN.mpr (.inl rfl)
     rw [z] at this
     cases this
   · rw [if_neg e] at h
     exact R.ne _ _ h z
 has := fun m s => by
   have hsp : (Vl r n (t / r.span)).span = r.span := XC _ _
   rw [Xt, hsp]
   have key := R.has m s
   by_cases em : m = n
   · subst em
     have no : ¬ ∃ ns, get r.filled s = some ns ∧ m ∈ ns := fun z => by
       obtain ⟨t', ht, _⟩ := key.mp z
       rw [hn] at ht
       cases ht
     simp only [gput, if_true]
     constructor
     · rintro ⟨ns, h, hm⟩
       by_cases e : s = t / r.span
       · exact ⟨t, rfl, e.symm⟩
       · rw [if_neg e] at h
         exact (no ⟨ns, h, hm⟩).elim
     · rintro ⟨t', e1, e2⟩
       cases e1
       rw [if_pos e2.symm]
       exact ⟨_, rfl, mem_putN.mpr (.inl rfl)⟩
   · simp only [gput, if_neg em]
     rw [← key]
     by_cases e : s = t / r.span
     · subst e
       rw [if_pos rfl]
       constructor
       · rintro ⟨ns, h, hm⟩
         cases h
         rcases mem_putN.mp hm with z | z
         · exact (em z).elim
         · cases q : get r.filled (t / r.span) with
           | none => rw [q] at z; cases z
           | some l => exact ⟨l, rfl, by rw [q] at z; exact z⟩
       · rintro ⟨ns, h, hm⟩
         refine ⟨_, rfl, mem_putN.mpr (.inr ?_)⟩
         rw [h]
         exact hm
     · rw [if_neg e]
theorem slotOut_ok {r : RowS} {g : Int → Option Int} (R : RowOK r g) {s : Int} (hs : s ∈ r.rising) : RowOK (Uq r s) (fun n => (g n).filter fun t => !decide (t / r.span = s)) where
 sp := R.sp
 ndk := Xw R.ndk _
 srt := R.srt.sublist (List.eraseIdx_sublist _ _)
 mem := fun x => by
   show x ∈ r.rising.eraseIdx (pos r.rising s) ↔ (get (drop r.filled s) x).isSome = true
   rw [mem_erase R.srt hs, ZB, R.mem x]
   by_cases e : x = s <;> simp [e]
 nd := fun x ns h => by
   have h' : get (drop r.filled s) x = some ns := h
   rw [ZB] at h'
   by_cases e : x = s
   · rw [if_pos e] at h'; cases h'
   · rw [if_neg e] at h'; exact R.nd _ _ h'
 ne := fun x ns h => by
   have h' : get (drop r.filled s) x = some ns := h
   rw [ZB] at h'
   by_cases e : x = s
   · rw [if_pos e] at h'; cases h'
   · rw [if_neg e] at h'; exact R.ne _ _ h'
 has := fun m x => by
   show (∃ ns, get (drop r.filled s) x = some ns ∧ m ∈ ns) ↔ _
   rw [ZB]
   have key := R.has m x
   by_cases e : x = s
   · rw [if_pos e]
     constructor
     · rintro ⟨ns, h, _⟩
       cases h
     · rintro ⟨t, h, h2⟩
       rw [Option.filter_eq_some_iff] at h
       have : ¬ t / r.span = s := by simpa using h.2
       exact (this (h2.trans e)).elim
   · rw [if_neg e, key]
     constructor
     · rintro ⟨t, h, h2⟩
       refine ⟨t, ?_, h2⟩
       rw [Option.filter_eq_some_iff]
       exact ⟨h, by simp; rw [show r.span = (Uq r s).span from rfl] at h2; intro z; exact e (h2 ▸ z)⟩
     · rintro ⟨t, h, h2⟩
       rw [Option.filter_eq_some_iff] at h
       exact ⟨t, h.1, h2⟩
theorem YR {r : RowS} {g g' : Int → Option Int} (R : RowOK r g) (h : ∀ n, g n = g' n) : RowOK r g' := by
 have : g = g' := funext h
 exact this ▸ R
theorem row_small {r : RowS} {g : Int → Option Int} (R : RowOK r g) {N : Nat} (dom : ∀ n t, g n = some t → 0 ≤ n ∧ n < N) : r.rising.length ≤ N ∧ r.filled.length ≤ N ∧ ∀ s ns, get r.filled s = some ns → ns.length ≤ N := by
 have rng : ∀ n t, g n = some t → n ∈ (List.range N).map (fun (i : Nat) => (i : Int)) := fun n t h => by
   obtain ⟨a, b⟩ := dom n t h
   exact List.mem_map.mpr ⟨n.toNat, List.mem_range.mpr (by omega), by omega⟩
 have c1 : ∀ s ns, get r.filled s = some ns → ns.length ≤ N := fun s ns h => by
   have q := (R.nd s ns h).length_le_of_subset (l₂ := (List.range N).map (fun (i : Nat) => (i : Int))) fun n hn => by
     obtain ⟨t, ht, _⟩ := (R.has n s).mp ⟨ns, h, hn⟩
     exact rng n t ht
   simpa using q
 have pick : ∀ s, s ∈ r.rising → ∃ n t, g n = some t ∧ t / r.span = s := fun s hs => by
   obtain ⟨ns, h⟩ := Option.isSome_iff_exists.mp ((R.mem s).mp hs)
   cases e : ns with
   | nil => exact (R.ne s ns h e).elim
   | cons n l =>
     obtain ⟨t, ht, h2⟩ := (R.has n s).mp ⟨ns, h, by rw [e]; exact List.mem_cons_self⟩
     exact ⟨n, t, ht, h2⟩
 have c2 : ∀ l : List Int, l.Nodup → (∀ s ∈ l, s ∈ r.rising) → ∃ m : List Int, m.length = l.length ∧ m.Nodup ∧ ∀ n ∈ m, ∃ t, g n = some t ∧ t / r.span ∈ l := by
   intro l
   induction l with
   | nil => exact fun _ _ => ⟨[], rfl, List.nodup_nil, fun n h => by cases h⟩
   | cons s l ih =>
     intro hn hs
     obtain ⟨h1, h2⟩ := List.nodup_cons.mp hn
     obtain ⟨m, hl, hm, hg⟩ := ih h2 fun x hx => hs x (List.mem_cons_of_mem _ hx)
     obtain ⟨n, t, ht, hts⟩ := pick s (hs s List.mem_cons_self)
     refine ⟨n :: m, by simp [hl], List.nodup_cons.mpr ⟨fun z => ?_, hm⟩, fun x hx => ?_⟩
     · obtain ⟨t', ht', hx⟩ := hg n z
       rw [ht] at ht'
       cases ht'
       rw [hts] at hx
       exact h1 hx
     · rcases List.mem_cons.mp hx with rfl | hx
       · exact ⟨t, ht, by rw [hts]; exact List.mem_cons_self⟩
       · obtain ⟨t', a, b⟩ := hg x hx
         exact ⟨t', a, List.mem_cons_of_mem _ b⟩
 have c3 : r.rising.length ≤ N := by
   obtain ⟨m, hl, hm, hg⟩ := c2 r.rising (VB R.srt) fun _ h => h
   have q := hm.length_le_of_subset (l₂ := (List.range N).map (fun (i : Nat) => (i : Int))) fun n hn => by
     obtain ⟨t, ht, _⟩ := hg n hn
     exact rng n t ht
   rw [hl] at q
   simpa using q
 refine ⟨c3, ?_, c1⟩
 have q := R.ndk.length_le_of_subset (l₂ := r.rising) fun s hs => (R.mem s).mpr (by
   cases e : get r.filled s with
   | none => exact (get_none.mp e hs).elim
   | some v => rfl)
 have e : (keys r.filled).length = r.filled.length := by simp [keys]
 omega
end Rk
end
section
namespace Rk
open Mir
def fil (S : Int) (n : Nat) (now : Int) (f : Int → Option Int) (i : Nat) : Int → Option Int := fun k => (f k).filter fun t => decide (lv S n now t = i)
theorem fil_some {S : Int} {n : Nat} {now : Int} {f : Int → Option Int} {i : Nat} {k t : Int} : fil S n now f i k = some t ↔ f k = some t ∧ lv S n now t = i := by
 unfold fil
 rw [Option.filter_eq_some_iff]
 simp
structure RackOK (S : Int) (n : Nat) (now : Int) (rows : List RowS) (f : Int → Option Int) : Prop where
 hS : 2 ≤ S
 len : rows.length = n + 1
 span : ∀ (i : Nat) r, rows[i]? = some r → r.span = S ^ i
 row : ∀ (i : Nat) r, rows[i]? = some r → RowOK r (fil S n now f i)
 ahead : ∀ k t, f k = some t → now < t
 dom : ∀ k t, f k = some t → 0 ≤ k ∧ k < 63
section
variable {S : Int} {n : Nat} {now : Int} {rows : List RowS} {f : Int → Option Int}
theorem RackOK.pS (R : RackOK S n now rows f) : 0 < S := by have := R.hS; omega
theorem RackOK.at (R : RackOK S n now rows f) {i : Nat} (h : i ≤ n) : ∃ r, rows[i]? = some r := by
 have : i < rows.length := by have := R.len; omega
 exact ⟨rows[i], by simp [this]⟩
theorem Sk {r : RowS} {L i : Nat} {r' : RowS} (h : rows[L]? = some r) (e : (rows.set L r')[i]? = some r'') : (i = L ∧ r'' = r') ∨ (i ≠ L ∧ rows[i]? = some r'') := by
 rw [List.getElem?_set] at e
 by_cases hi : L = i
 · subst hi
   have hl : L < rows.length := (List.getElem?_eq_some_iff.mp h).1
   rw [if_pos rfl, if_pos hl] at e
   exact .inl ⟨rfl, (Option.some.inj e).symm⟩
 · rw [if_neg hi] at e
   exact .inr ⟨fun z => hi z.symm, e⟩
theorem RackOK.put (R : RackOK S n now rows f) {k t : Int} {r : RowS} (hk : f k = none) (ht : now < t) (hd : 0 ≤ k ∧ k < 63) (hr : rows[lv S n now t]? = some r) :
   RackOK S n now (rows.set (lv S n now t) (Vl r k (t / r.span))) (gput f k (some t)) where
 hS := R.hS
 len := by rw [List.length_set]; exact R.len
 span := fun i r' e => by
   rcases Sk hr e with ⟨rfl, rfl⟩ | ⟨_, e⟩
   · show (ZJ r _).span = _
     rw [XC]
     exact R.span _ _ hr
   · exact R.span i r' e
 row := fun i r' e => by
   rcases Sk hr e with ⟨rfl, rfl⟩ | ⟨hi, e⟩
   · refine YR (rowPut_ok (R.row _ _ hr) (n := k) (t := t) ?_) fun m => ?_
     · unfold fil
       rw [hk]
       rfl
     · unfold gput fil
       by_cases em : m = k
       · simp [em, Option.filter]
       · simp [em]
   · refine YR (R.row i r' e) fun m => ?_
     unfold gput fil
     dsimp only
     by_cases em : m = k
     · subst em
       rw [if_pos rfl, hk]
       simp [Option.filter, Ne.symm hi]
     · rw [if_neg em]
 ahead := fun m t' e => by
   unfold gput at e
   by_cases em : m = k
   · rw [if_pos em] at e; cases e; exact ht
   · rw [if_neg em] at e; exact R.ahead m t' e
 dom := fun m t' e => by
   unfold gput at e
   by_cases em : m = k
   · rw [if_pos em] at e; cases e; rw [em]; exact hd
   · rw [if_neg em] at e; exact R.dom m t' e
theorem RackOK.out (R : RackOK S n now rows f) {L : Nat} {r : RowS} {s : Int} (hr : rows[L]? = some r) (hs : s ∈ r.rising) :
   RackOK S n now (rows.set L (Uq r s)) (fun k => (f k).filter fun t => !decide (lv S n now t = L ∧ t / S ^ L = s)) where
 hS := R.hS
 len := by rw [List.length_set]; exact R.len
 span := fun i r' e => by
   rcases Sk hr e with ⟨rfl, rfl⟩ | ⟨_, e⟩
   · show r.span = _
     exact R.span _ _ hr
   · exact R.span i r' e
 row := fun i r' e => by
   rcases Sk hr e with ⟨rfl, rfl⟩ | ⟨hi, e⟩
   · refine YR (slotOut_ok (R.row _ _ hr) hs) fun m => ?_
     rw [R.span _ _ hr]
     unfold fil
     dsimp only
     cases f m with
     | none => rfl
     | some t =>
       by_cases h1 : lv S n now t = i
       · by_cases h2 : t / S ^ i = s <;> simp [Option.filter, h1, h2]
       · simp [Option.filter, h1]
   · refine YR (R.row i r' e) fun m => ?_
     unfold fil
     dsimp only
     cases f m with
     | none => rfl
     | some t =>
       by_cases h1 : lv S n now t = i
       · have : ¬ lv S n now t = L := fun z => hi (h1.symm.trans z)
         simp [Option.filter, h1, hi]
       · by_cases h2 : lv S n now t = L ∧ t / S ^ L = s <;> simp [Option.filter, h1, h2, Ne.symm hi]
 ahead := fun m t' e => by
   rw [Option.filter_eq_some_iff] at e
   exact R.ahead m t' e.1
 dom := fun m t' e => by
   rw [Option.filter_eq_some_iff] at e
   exact R.dom m t' e.1
theorem RackOK.later (R : RackOK S n now rows f) {now' : Int} (h1 : now ≤ now') (h2 : ∀ k t, f k = some t → now' < st S n now t) : RackOK S n now' rows f where
 hS := R.hS
 len := R.len
 span := R.span
 row := fun i r e => YR (R.row i r e) fun m => by
   unfold fil
   cases e : f m with
   | none => rfl
   | some t => simp [Option.filter, lv_stay R.pS h1 (h2 m t e)]
 ahead := fun k t e => Int.lt_of_lt_of_le (h2 k t e) (UG R.pS n now t)
 dom := R.dom
theorem RackOK.congr {f' : Int → Option Int} (R : RackOK S n now rows f) (h : ∀ k, f k = f' k) : RackOK S n now rows f' := by
 have : f = f' := funext h
 exact this ▸ R
theorem RackOK.none_first (R : RackOK S n now rows f) (h : ∀ (i : Nat) r, rows[i]? = some r → r.rising = []) : ∀ k, f k = none := fun k => by
 cases e : f k with
 | none => rfl
 | some t =>
   obtain ⟨r, hr⟩ := R.at (Td S n now t)
   have Q := R.row _ _ hr
   obtain ⟨ns, h1, h2⟩ := (Q.has k (t / r.span)).mpr ⟨t, fil_some.mpr ⟨e, rfl⟩, rfl⟩
   have := (Q.mem (t / r.span)).mpr (by rw [h1]; rfl)
   rw [h _ r hr] at this
   cases this
structure First (S : Int) (n : Nat) (now : Int) (f : Int → Option Int) (L : Nat) (s : Int) : Prop where
 le : L ≤ n
 one : ∃ k t, f k = some t ∧ lv S n now t = L ∧ t / S ^ L = s
 least : ∀ k t, f k = some t → s * S ^ L ≤ st S n now t
 just : ∀ k t, f k = some t → (st S n now t = s * S ^ L ↔ lv S n now t = L ∧ t / S ^ L = s)
theorem RackOK.first (R : RackOK S n now rows f) {L : Nat} {r : RowS} {s : Int} (hr : rows[L]? = some r) (hs : r.rising[0]? = some s) (low : ∀ (i : Nat) r', i < L → rows[i]? = some r' → r'.rising = []) : First S n now f L s := by
 have Q := R.row _ _ hr
 have sp := R.span _ _ hr
 have hm : s ∈ r.rising := List.mem_of_getElem? hs
 have hL : L ≤ n := by have := (List.getElem?_eq_some_iff.mp hr).1; have := R.len; omega
 obtain ⟨ns, hns⟩ := Option.isSome_iff_exists.mp ((Q.mem s).mp hm)
 obtain ⟨k0, t0, h0, l0, d0⟩ : ∃ k t, f k = some t ∧ lv S n now t = L ∧ t / S ^ L = s := by
   cases e : ns with
   | nil => exact (Q.ne s ns hns e).elim
   | cons k l =>
     obtain ⟨t, ht, h2⟩ := (Q.has k s).mp ⟨ns, hns, by rw [e]; exact List.mem_cons_self⟩
     obtain ⟨a, b⟩ := fil_some.mp ht
     exact ⟨k, t, a, b, by rw [← sp]; exact h2⟩
 have s0 : st S n now t0 = s * S ^ L := by unfold st; rw [l0, d0]
 have ge : ∀ k t, f k = some t → L ≤ lv S n now t := fun k t e => by
   rcases Nat.lt_or_ge (lv S n now t) L with z | z
   · obtain ⟨r', hr'⟩ := R.at (Td S n now t)
     have Q' := R.row _ _ hr'
     obtain ⟨ns', h1, h2⟩ := (Q'.has k (t / r'.span)).mpr ⟨t, fil_some.mpr ⟨e, rfl⟩, rfl⟩
     have := (Q'.mem (t / r'.span)).mpr (by rw [h1]; rfl)
     rw [low _ r' z hr'] at this
     cases this
   · exact z
 have p := pow_pos R.pS L
 have same : ∀ k t, f k = some t → lv S n now t = L → s ≤ t / S ^ L := fun k t e hl => by
   obtain ⟨ns', h1, h2⟩ := (Q.has k (t / r.span)).mpr ⟨t, fil_some.mpr ⟨e, hl⟩, rfl⟩
   have hx := (Q.mem (t / r.span)).mpr (by rw [h1]; rfl)
   rw [sp] at hx
   obtain ⟨j, hj, ej⟩ := List.mem_iff_getElem.mp hx
   obtain ⟨h00, es⟩ := List.getElem?_eq_some_iff.mp hs
   by_cases hj0 : j = 0
   · subst hj0
     omega
   · have := List.pairwise_iff_getElem.mp Q.srt 0 j h00 hj (by omega)
     omega
 refine ⟨hL, ⟨k0, t0, h0, l0, d0⟩, fun k t e => ?_, fun k t e => ⟨fun hst => ?_, fun ⟨hl, hd⟩ => by unfold st; rw [hl, hd]⟩⟩
 · rcases Nat.lt_or_ge L (lv S n now t) with z | z
   · have := Ta R.pS (R.ahead k t e) (a := t0) (by rw [l0]; exact z)
     have := UG R.pS n now t0
     omega
   · have hl : lv S n now t = L := Nat.le_antisymm z (ge k t e)
     have := same k t e hl
     unfold st
     rw [hl]
     exact Int.mul_le_mul_of_nonneg_right this (Int.le_of_lt p)
 · rw [← s0] at hst
   have hl := st_inj R.pS (R.ahead k t e) (R.ahead k0 t0 h0) hst
   rw [l0] at hl
   refine ⟨hl, ?_⟩
   unfold st at hst
   rw [hl, l0, d0] at hst
   exact Int.eq_of_mul_eq_mul_right (Int.ne_of_gt p) hst
end
end Rk
end
section
namespace Tb
open PySem L2 Mir Rk
section
variable {α : Type}
def mapK (f : Int → α → V) (t : Dct α) : List (Key × V) := t.map fun p => (Sum.inl p.1, f p.1 p.2)
theorem YF (f : Int → α → V) (t : Dct α) (n : Int) : valV (mapK f t) (Sum.inl n) = (get t n).map (f n) := by
 induction t with
 | nil => rfl
 | cons p t ih =>
   show valV ((Sum.inl p.1, f p.1 p.2) :: mapK f t) (Sum.inl n) = _
   rw [ZV]
   by_cases e : p.1 = n
   · rw [if_pos e, Vq (by rw [e])]
     rw [e]
     rfl
   · rw [if_neg e, Vr (fun z => e (Sum.inl.inj z)), ih]
theorem mapK_any (f : Int → α → V) (t : Dct α) (n : Int) : ((mapK f t).any fun kv => decide (kv.1 = Sum.inl n)) = t.any fun p => decide (p.1 = n) := by
 unfold mapK
 rw [List.any_map]
 congr 1
 funext p
 simp
theorem XY (f : Int → α → V) (t : Dct α) (n : Int) (a : α) : putK (mapK f t) (Sum.inl n) (f n a) = mapK f (put t n a) := by
 unfold putK put
 rw [mapK_any]
 by_cases h : (t.any fun p => decide (p.1 = n)) = true
 · rw [if_pos h, if_pos h]
   unfold mapK
   rw [List.map_map, List.map_map]
   apply List.map_congr_left
   intro p _
   by_cases e : p.1 = n
   · simp [e]
   · have : ¬ (Sum.inl p.1 : Key) = Sum.inl n := fun z => e (Sum.inl.inj z)
     simp [e]
 · rw [if_neg h, if_neg h]
   unfold mapK
   rw [List.map_append]
   rfl
theorem Xz (f : Int → α → V) (t : Dct α) (n : Int) : XB (mapK f t) (Sum.inl n) = mapK f (drop t n) := by
 unfold XB drop mapK
 rw [List.filter_map]
 congr 1
 apply List.filter_congr
 intro p _
 by_cases e : p.1 = n <;> simp [e]
theorem Xk (f : Int → α → V) (t : Dct α) : (mapK f t).length = t.length := List.length_map ..
end
def numV (ns : List Int) : List (Key × V) := ns.map fun n => (Sum.inl n, V.bl true)
theorem numV_any (ns : List Int) (n : Int) : ((numV ns).any fun kv => decide (kv.1 = Sum.inl n)) = decide (n ∈ ns) := by
 induction ns with
 | nil => simp [numV]
 | cons a r ih =>
   show (decide ((Sum.inl a : Key) = Sum.inl n) || (numV r).any _) = _
   rw [ih]
   by_cases e : a = n
   · simp [e]
   · have e2 : ¬ n = a := fun z => e z.symm
     simp [e, e2]
theorem putK_numV (ns : List Int) (n : Int) : putK (numV ns) (Sum.inl n) (V.bl true) = numV (putN ns n) := by
 unfold putK putN
 rw [numV_any]
 by_cases h : n ∈ ns
 · rw [if_pos (by simpa using h), if_pos h]
   unfold numV
   rw [List.map_map]
   apply List.map_congr_left
   intro a _
   by_cases e : a = n <;> simp [e]
 · rw [if_neg (by simpa using h), if_neg h]
   unfold numV
   rw [List.map_append]
   rfl
structure Cl where
 Row : Addr
 Rack : Addr
 Wheels : Addr
 Book : Addr
structure BkS where
 slots : Int
 spans : List Int
 rows : List RowS
 now : Int
 next : Int
 names : Dct Str
 steps : Dct (Option Int)
 ticks : Dct Int
 kept : Dct Int
inductive Lb where
 | book | rack | wheels | spans | rows | names | steps | ticks | kept
 | row (i : Nat) | filled (i : Nat) | rising (i : Nat)
 | slot (i : Nat) (s : Int)
deriving DecidableEq
def Yi : Option Int → V
 | none => .non
 | some k => .int k
def rowF (sp : Int) (df lr : Addr) : List (Str × V) := [("span", .int sp), ("filled", .ref df), ("rising", .ref lr)]
def UO (wh rl : Addr) : List (Str × V) := [("wheels", .ref wh), ("rows", .ref rl)]
def Yx (s : Int) (tp : Addr) : List (Str × V) := [("slots", .int s), ("spans", .ref tp)]
def Sa (rk : Addr) (now next : Int) (nm st tk kp : Addr) : List (Str × V) := [("rack", .ref rk), ("now", .int now), ("next_number", .int next), ("names", .ref nm), ("steps", .ref st), ("ticks", .ref tk), ("kept_ticks", .ref kp)]
structure Adr where
 ad : Lb → Addr
 dx : Lb → Addr
abbrev Sl := Nat → Int → Addr
def loc (A : Adr) (sl : Sl) : Lb → Addr
 | .slot i s => sl i s
 | l => A.ad l
def ZP (sl : Sl) (i : Nat) (t : Dct (List Int)) : List (Key × V) := mapK (fun s _ => V.ref (sl i s)) t
def cont (c : Cl) (A : Adr) (sl : Sl) (B : BkS) : Lb → Option HO
 | .book => some (.ins c.Book (A.dx .book) (Sa (A.ad .rack) B.now B.next (A.ad .names) (A.ad .steps) (A.ad .ticks) (A.ad .kept)))
 | .rack => some (.ins c.Rack (A.dx .rack) (UO (A.ad .wheels) (A.ad .rows)))
 | .wheels => some (.ins c.Wheels (A.dx .wheels) (Yx B.slots (A.ad .spans)))
 | .spans => some (.tup (B.spans.map V.int))
 | .rows => some (.lst ((List.range B.rows.length).map fun i => V.ref (A.ad (.row i))))
 | .names => some (.dK (mapK (fun _ x => V.str x) B.names))
 | .steps => some (.dK (mapK (fun _ x => Yi x) B.steps))
 | .ticks => some (.dK (mapK (fun _ x => V.int x) B.ticks))
 | .kept => some (.dK (mapK (fun _ x => V.int x) B.kept))
 | .row i => B.rows[i]?.map fun r => .ins c.Row (A.dx (.row i)) (rowF r.span (A.ad (.filled i)) (A.ad (.rising i)))
 | .filled i => B.rows[i]?.map fun r => .dK (ZP sl i r.filled)
 | .rising i => B.rows[i]?.map fun r => .lst (r.rising.map V.int)
 | .slot i s => B.rows[i]?.bind fun r => (get r.filled s).map fun ns => .dK (numV ns)
structure Bk (c : Cl) (A : Adr) (sl : Sl) (H0 H : Hp) (B : BkS) : Prop where
 same : Same H0 H
 free : ∀ l o, cont c A sl B l = some o → H0 (loc A sl l) = none
 here : ∀ l o, cont c A sl B l = some o → H (loc A sl l) = some o
 inj : ∀ l l' o o', cont c A sl B l = some o → cont c A sl B l' = some o' → loc A sl l = loc A sl l' → l = l'
section
variable {c : Cl} {A : Adr} {sl : Sl} {H0 H : Hp} {B : BkS}
theorem Bk.set (b : Bk c A sl H0 H B) {l : Lb} {o o' : HO} {B' : BkS} (hl : cont c A sl B l = some o) (e : cont c A sl B' l = some o') (e' : ∀ l', l' ≠ l → ∀ u, cont c A sl B' l' = some u → cont c A sl B l' = some u) :
   Bk c A sl H0 (upd H (loc A sl l) o') B' := by
 have back : ∀ l' u, cont c A sl B' l' = some u → ∃ v, cont c A sl B l' = some v := fun l' u h => by
   by_cases z : l' = l
   · exact ⟨o, z ▸ hl⟩
   · exact ⟨u, e' l' z u h⟩
 refine ⟨fun x u h => ?_, fun l' u h => ?_, fun l' u h => ?_, fun l1 l2 o1 o2 h1 h2 z => ?_⟩
 · have hn := b.free l o hl
   rw [Zc (fun z => by rw [z, hn] at h; cases h)]
   exact b.same x u h
 · obtain ⟨v, hv⟩ := back l' u h
   exact b.free l' v hv
 · by_cases z : l' = l
   · subst z
     rw [e] at h
     cases h
     exact Zb
   · have hv := e' l' z u h
     rw [Zc (fun q => z (b.inj l' l u o hv hl q))]
     exact b.here l' u hv
 · obtain ⟨v1, hv1⟩ := back l1 o1 h1
   obtain ⟨v2, hv2⟩ := back l2 o2 h2
   exact b.inj l1 l2 v1 v2 hv1 hv2 z
theorem Bk.ne (b : Bk c A sl H0 H B) {l : Lb} {o : HO} (hl : cont c A sl B l = some o) {x : Addr} (hx : H x = none ∨ ∃ u, H0 x = some u) : loc A sl l ≠ x := fun z => by
 rcases hx with hx | ⟨u, hx⟩
 · have := b.here l o hl
   rw [z, hx] at this
   cases this
 · have := b.free l o hl
   rw [z, hx] at this
   cases this
theorem Bk.out (b : Bk c A sl H0 H B) {x : Addr} {o : HO} (hx : H x = none ∨ ∃ u, H0 x = some u) : Bk c A sl (upd H0 x o) (upd H x o) B where
 same := fun y u h => by
   by_cases z : y = x
   · subst z
     rw [Zb] at h
     rw [Zb]
     exact h
   · rw [Zc z] at h
     rw [Zc z]
     exact b.same y u h
 free := fun l u h => by rw [Zc (b.ne h hx)]; exact b.free l u h
 here := fun l u h => by rw [Zc (b.ne h hx)]; exact b.here l u h
 inj := b.inj
theorem Bk.weak {H1 : Hp} (b : Bk c A sl H0 H B) (h : Same H1 H0) : Bk c A sl H1 H B where
 same := h.trans b.same
 free := fun l u q => h.free (b.free l u q)
 here := b.here
 inj := b.inj
theorem Same.upd {H : Hp} {x : Addr} {o : HO} (h : H x = none) : Same H (L2.upd H x o) := fun y u q => by
 rw [Zc (Zk q h)]
 exact q
theorem Bk.temp (b : Bk c A sl H0 H B) {x : Addr} {o : HO} (hx : H x = none) : Bk c A sl H0 (upd H x o) B := (b.out (.inl hx)).weak (Same.upd (b.same.free hx))
def YE (sl : Sl) (i : Nat) (s : Int) (d : Addr) : Sl := fun i' s' => if i' = i ∧ s' = s then d else sl i' s'
theorem UL {sl : Sl} {i : Nat} {s : Int} {d : Addr} : YE sl i s d i s = d := by simp [YE]
def ZD (B : BkS) (i : Nat) (r : RowS) : BkS := { B with rows := B.rows.set i r }
theorem ZX {i j : Nat} {r r' : RowS} (h : B.rows[i]? = some r) : (ZD B i r').rows[j]? = if j = i then some r' else B.rows[j]? := by
 show (B.rows.set i r')[j]? = _
 have hl : i < B.rows.length := (List.getElem?_eq_some_iff.mp h).1
 rw [List.getElem?_set]
 by_cases e : i = j
 · subst e
   simp [hl]
 · have e2 : ¬ j = i := fun z => e z.symm
   simp [e, e2]
theorem Uj {i j : Nat} {s : Int} {d : Addr} {t : Dct (List Int)} (h : j = i → get t s = none) : ZP (YE sl i s d) j t = ZP sl j t := by
 unfold ZP mapK
 apply List.map_congr_left
 intro p hp
 have : ¬ (j = i ∧ p.1 = s) := fun ⟨z1, z2⟩ => by
   have q := h z1
   rw [get_none] at q
   exact q (z2 ▸ List.mem_map.mpr ⟨p, hp, rfl⟩)
 simp [YE, this]
theorem Bk.newSlot (b : Bk c A sl H0 H B) {i : Nat} {r : RowS} {s : Int} {d : Addr} (hr : B.rows[i]? = some r) (hs : get r.filled s = none) (hd : H d = none) :
   Bk c A (YE sl i s d) H0 (upd (upd H d (.dK [])) (A.ad (.filled i)) (.dK (putK (ZP sl i r.filled) (Sum.inl s) (.ref d)))) (ZD B i { r with filled := put r.filled s [] }) := by
 have hlen : (B.rows.set i { r with filled := put r.filled s [] }).length = B.rows.length := List.length_set ..
 have eF : putK (ZP sl i r.filled) (Sum.inl s) (.ref d) = ZP (YE sl i s d) i (put r.filled s []) := by
   have : ZP sl i r.filled = ZP (YE sl i s d) i r.filled := (Uj (fun _ => hs)).symm
   rw [this]
   unfold ZP
   rw [← XY, UL]
 have hF : cont c A sl B (.filled i) = some (.dK (ZP sl i r.filled)) := by show B.rows[i]?.map _ = _; rw [hr]; rfl
 have nd : ∀ l o, cont c A sl B l = some o → loc A sl l ≠ d := fun l o h => b.ne h (.inl hd)
 have old : ∀ l o, l ≠ .filled i → l ≠ .slot i s → cont c A (YE sl i s d) (ZD B i { r with filled := put r.filled s [] }) l = some o → cont c A sl B l = some o ∧ loc A (YE sl i s d) l = loc A sl l := by
   intro l o h1 h2 h
   cases l with
   | row j =>
     refine ⟨?_, rfl⟩
     have h' : ((ZD B i { r with filled := put r.filled s [] }).rows[j]?).map _ = some o := h
     rw [ZX hr] at h'
     by_cases e : j = i
     · subst e
       rw [if_pos rfl] at h'
       show B.rows[j]?.map _ = _
       rw [hr]
       exact h'
     · rw [if_neg e] at h'
       exact h'
   | filled j =>
     have e : ¬ j = i := fun z => h1 (by rw [z])
     refine ⟨?_, rfl⟩
     have h' : ((ZD B i { r with filled := put r.filled s [] }).rows[j]?).map (fun r => HO.dK (ZP (YE sl i s d) j r.filled)) = some o := h
     rw [ZX hr, if_neg e] at h'
     show B.rows[j]?.map _ = _
     rw [← h']
     congr 1
     funext r'
     rw [Uj (fun z => (e z).elim)]
   | rising j =>
     refine ⟨?_, rfl⟩
     have h' : ((ZD B i { r with filled := put r.filled s [] }).rows[j]?).map (fun r => HO.lst (r.rising.map V.int)) = some o := h
     rw [ZX hr] at h'
     by_cases e : j = i
     · subst e
       rw [if_pos rfl] at h'
       show B.rows[j]?.map _ = _
       rw [hr]
       exact h'
     · rw [if_neg e] at h'
       exact h'
   | slot j x =>
     have e : ¬ (j = i ∧ x = s) := fun z => h2 (by rw [z.1, z.2])
     refine ⟨?_, by show YE sl i s d j x = sl j x; simp [YE, e]⟩
     have h' : ((ZD B i { r with filled := put r.filled s [] }).rows[j]?).bind (fun r => (get r.filled x).map fun ns => HO.dK (numV ns)) = some o := h
     rw [ZX hr] at h'
     by_cases ej : j = i
     · subst ej
       rw [if_pos rfl] at h'
       have ex : ¬ x = s := fun z => e ⟨rfl, z⟩
       have h'' : (get (put r.filled s []) x).map (fun ns => HO.dK (numV ns)) = some o := h'
       rw [Zw, if_neg ex] at h''
       show B.rows[j]?.bind _ = _
       rw [hr]
       exact h''
     · rw [if_neg ej] at h'
       exact h'
   | rows =>
     refine ⟨?_, rfl⟩
     have h' : some (HO.lst ((List.range (B.rows.set i { r with filled := put r.filled s [] }).length).map fun i => V.ref (A.ad (.row i)))) = some o := h
     rw [hlen] at h'
     exact h'
   | book => exact ⟨h, rfl⟩
   | rack => exact ⟨h, rfl⟩
   | wheels => exact ⟨h, rfl⟩
   | spans => exact ⟨h, rfl⟩
   | names => exact ⟨h, rfl⟩
   | steps => exact ⟨h, rfl⟩
   | ticks => exact ⟨h, rfl⟩
   | kept => exact ⟨h, rfl⟩
 have nF : A.ad (.filled i) ≠ d := nd _ _ hF
 have lS : loc A (YE sl i s d) (.slot i s) = d := UL
 have lF : loc A (YE sl i s d) (.filled i) = loc A sl (.filled i) := rfl
 have all : ∀ l o, cont c A (YE sl i s d) (ZD B i { r with filled := put r.filled s [] }) l = some o → l = .slot i s ∨ ∃ o', cont c A sl B l = some o' ∧ loc A (YE sl i s d) l = loc A sl l := fun l o h => by
   by_cases h1 : l = .slot i s
   · exact .inl h1
   · by_cases h2 : l = .filled i
     · subst h2
       exact .inr ⟨_, hF, rfl⟩
     · exact .inr ⟨o, old l o h2 h1 h⟩
 refine ⟨fun x u h => ?_, fun l o h => ?_, fun l o h => ?_, fun l1 l2 o1 o2 h1 h2 z => ?_⟩
 · have q := b.same x u h
   have n1 : x ≠ A.ad (.filled i) := fun z => by
     have := b.free _ _ hF
     rw [show loc A sl (.filled i) = A.ad (.filled i) from rfl, ← z, h] at this
     cases this
   rw [Zc n1, Zc (Zk q hd)]
   exact q
 · rcases all l o h with rfl | ⟨o', ho, e⟩
   · rw [lS]
     exact b.same.free hd
   · rw [e]
     exact b.free l o' ho
 · by_cases h1 : l = .slot i s
   · subst h1
     rw [lS, Zc (Ne.symm nF), Zb]
     have h' : ((ZD B i { r with filled := put r.filled s [] }).rows[i]?).bind (fun r => (get r.filled s).map fun ns => HO.dK (numV ns)) = some o := h
     rw [ZX hr, if_pos rfl] at h'
     have h'' : (get (put r.filled s []) s).map (fun ns => HO.dK (numV ns)) = some o := h'
     rw [Zw, if_pos rfl] at h''
     exact h''
   · by_cases h2 : l = .filled i
     · subst h2
       have h' : ((ZD B i { r with filled := put r.filled s [] }).rows[i]?).map (fun r => HO.dK (ZP (YE sl i s d) i r.filled)) = some o := h
       rw [ZX hr, if_pos rfl] at h'
       show upd _ (A.ad (.filled i)) _ (A.ad (.filled i)) = some o
       rw [Zb, eF]
       exact h'
     · obtain ⟨ho, e⟩ := old l o h2 h1 h
       rw [e, Zc (show loc A sl l ≠ A.ad (.filled i) from fun z => h2 (b.inj l (.filled i) o _ ho hF z)), Zc (nd l o ho)]
       exact b.here l o ho
 · rcases all l1 o1 h1 with rfl | ⟨p1, q1, e1⟩
   · rcases all l2 o2 h2 with rfl | ⟨p2, q2, e2⟩
     · rfl
     · rw [lS, e2] at z
       exact (nd l2 p2 q2 z.symm).elim
   · rcases all l2 o2 h2 with rfl | ⟨p2, q2, e2⟩
     · rw [lS, e1] at z
       exact (nd l1 p1 q1 z).elim
     · rw [e1, e2] at z
       exact b.inj l1 l2 p1 p2 q1 q2 z
theorem Bk.wNow (b : Bk c A sl H0 H B) (x : Int) : Bk c A sl H0 (upd H (A.ad .book) (.ins c.Book (A.dx .book) (Sa (A.ad .rack) x B.next (A.ad .names) (A.ad .steps) (A.ad .ticks) (A.ad .kept)))) { B with now := x } :=
 b.set (l := .book) rfl rfl fun l' hl u h => by cases l' <;> first | exact h | exact absurd rfl hl
theorem Bk.wNext (b : Bk c A sl H0 H B) (x : Int) : Bk c A sl H0 (upd H (A.ad .book) (.ins c.Book (A.dx .book) (Sa (A.ad .rack) B.now x (A.ad .names) (A.ad .steps) (A.ad .ticks) (A.ad .kept)))) { B with next := x } :=
 b.set (l := .book) rfl rfl fun l' hl u h => by cases l' <;> first | exact h | exact absurd rfl hl
theorem Bk.wNames (b : Bk c A sl H0 H B) (x : Dct Str) : Bk c A sl H0 (upd H (A.ad .names) (.dK (mapK (fun _ x => V.str x) x))) { B with names := x } :=
 b.set (l := .names) rfl rfl fun l' hl u h => by cases l' <;> first | exact h | exact absurd rfl hl
theorem Bk.wSteps (b : Bk c A sl H0 H B) (x : Dct (Option Int)) : Bk c A sl H0 (upd H (A.ad .steps) (.dK (mapK (fun _ x => Yi x) x))) { B with steps := x } :=
 b.set (l := .steps) rfl rfl fun l' hl u h => by cases l' <;> first | exact h | exact absurd rfl hl
theorem Bk.wTicks (b : Bk c A sl H0 H B) (x : Dct Int) : Bk c A sl H0 (upd H (A.ad .ticks) (.dK (mapK (fun _ x => V.int x) x))) { B with ticks := x } :=
 b.set (l := .ticks) rfl rfl fun l' hl u h => by cases l' <;> first | exact h | exact absurd rfl hl
theorem XQ {i : Nat} {r r' : RowS} {l : Lb} {u : HO} (hr : B.rows[i]? = some r) (h : cont c A sl (ZD B i r') l = some u)
   (h1 : l = .row i → r'.span = r.span) (h2 : l = .filled i → ZP sl i r'.filled = ZP sl i r.filled) (h3 : l = .rising i → r'.rising = r.rising) (h4 : ∀ s ns, l = .slot i s → get r'.filled s = some ns → get r.filled s = some ns) : cont c A sl B l = some u := by
 cases l with
 | row j =>
   have h' : ((ZD B i r').rows[j]?).map _ = some u := h
   rw [ZX hr] at h'
   by_cases e : j = i
   · subst e
     rw [if_pos rfl] at h'
     show B.rows[j]?.map _ = _
     rw [hr, ← h']
     show some (HO.ins c.Row (A.dx (.row j)) (rowF r.span (A.ad (.filled j)) (A.ad (.rising j)))) = some (HO.ins c.Row (A.dx (.row j)) (rowF r'.span (A.ad (.filled j)) (A.ad (.rising j))))
     rw [h1 rfl]
   · rw [if_neg e] at h'
     exact h'
 | filled j =>
   have h' : ((ZD B i r').rows[j]?).map (fun r => HO.dK (ZP sl j r.filled)) = some u := h
   rw [ZX hr] at h'
   by_cases e : j = i
   · subst e
     rw [if_pos rfl] at h'
     show B.rows[j]?.map (fun r => HO.dK (ZP sl j r.filled)) = _
     rw [hr, ← h']
     show some (HO.dK (ZP sl j r.filled)) = some (HO.dK (ZP sl j r'.filled))
     rw [h2 rfl]
   · rw [if_neg e] at h'
     exact h'
 | rising j =>
   have h' : ((ZD B i r').rows[j]?).map (fun r => HO.lst (r.rising.map V.int)) = some u := h
   rw [ZX hr] at h'
   by_cases e : j = i
   · subst e
     rw [if_pos rfl] at h'
     show B.rows[j]?.map (fun r => HO.lst (r.rising.map V.int)) = _
     rw [hr, ← h']
     show some (HO.lst (r.rising.map V.int)) = some (HO.lst (r'.rising.map V.int))
     rw [h3 rfl]
   · rw [if_neg e] at h'
     exact h'
 | slot j x =>
   have h' : ((ZD B i r').rows[j]?).bind (fun r => (get r.filled x).map fun ns => HO.dK (numV ns)) = some u := h
   rw [ZX hr] at h'
   by_cases e : j = i
   · subst e
     rw [if_pos rfl] at h'
     have h'' : (get r'.filled x).map (fun ns => HO.dK (numV ns)) = some u := h'
     cases q : get r'.filled x with
     | none => rw [q] at h''; cases h''
     | some ns =>
       show B.rows[j]?.bind _ = _
       rw [hr]
       show (get r.filled x).map (fun ns => HO.dK (numV ns)) = some u
       rw [h4 x ns rfl q, ← h'', q]
   · rw [if_neg e] at h'
     exact h'
 | rows =>
   have h' : some (HO.lst ((List.range (B.rows.set i r').length).map fun i => V.ref (A.ad (.row i)))) = some u := h
   rw [List.length_set] at h'
   exact h'
 | book => exact h
 | rack => exact h
 | wheels => exact h
 | spans => exact h
 | names => exact h
 | steps => exact h
 | ticks => exact h
 | kept => exact h
theorem cont_row {i : Nat} {r : RowS} (hr : B.rows[i]? = some r) : cont c A sl B (.row i) = some (.ins c.Row (A.dx (.row i)) (rowF r.span (A.ad (.filled i)) (A.ad (.rising i)))) := by show B.rows[i]?.map _ = _; rw [hr]; rfl
theorem Xl {i : Nat} {r : RowS} (hr : B.rows[i]? = some r) : cont c A sl B (.filled i) = some (.dK (ZP sl i r.filled)) := by show B.rows[i]?.map _ = _; rw [hr]; rfl
theorem XR {i : Nat} {r : RowS} (hr : B.rows[i]? = some r) : cont c A sl B (.rising i) = some (.lst (r.rising.map V.int)) := by show B.rows[i]?.map _ = _; rw [hr]; rfl
theorem Vd {i : Nat} {r : RowS} {s : Int} {ns : List Int} (hr : B.rows[i]? = some r) (hs : get r.filled s = some ns) : cont c A sl B (.slot i s) = some (.dK (numV ns)) := by
 show B.rows[i]?.bind _ = _
 rw [hr]
 show (get r.filled s).map _ = _
 rw [hs]
 rfl
theorem Xo {i : Nat} {r r' : RowS} (hr : B.rows[i]? = some r) : (ZD B i r').rows[i]? = some r' := by rw [ZX hr, if_pos rfl]
theorem Bk.wRising (b : Bk c A sl H0 H B) {i : Nat} {r : RowS} (hr : B.rows[i]? = some r) (l : List Int) : Bk c A sl H0 (upd H (A.ad (.rising i)) (.lst (l.map V.int))) (ZD B i { r with rising := l }) :=
 b.set (l := .rising i) (XR hr) (XR (Xo hr)) fun l' hl u h => XQ hr h (fun _ => rfl) (fun _ => rfl) (fun z => (hl z).elim) fun _ _ _ q => q
theorem fillV_put {i : Nat} {t : Dct (List Int)} {s : Int} {ns : List Int} (h : (get t s).isSome = true) : ZP sl i (put t s ns) = ZP sl i t := by
 unfold put
 rw [UB, if_pos h]
 unfold ZP mapK
 rw [List.map_map]
 apply List.map_congr_left
 intro p _
 by_cases e : p.1 = s <;> simp [e]
theorem Bk.wSlot (b : Bk c A sl H0 H B) {i : Nat} {r : RowS} {s : Int} {ns : List Int} (hr : B.rows[i]? = some r) (hs : get r.filled s = some ns) (ns' : List Int) : Bk c A sl H0 (upd H (sl i s) (.dK (numV ns'))) (ZD B i (setSlot r s ns')) :=
 b.set (l := .slot i s) (Vd hr hs) (Vd (Xo hr) (by show get (put r.filled s ns') s = _; rw [Zw, if_pos rfl])) fun l' hl u h =>
   XQ hr h (fun _ => rfl) (fun _ => fillV_put (by rw [hs]; rfl)) (fun _ => rfl) fun x ms z q => by
     have q' : get (put r.filled s ns') x = some ms := q
     rw [Zw, if_neg (fun e => hl (by rw [z, e]))] at q'
     exact q'
theorem Bk.dropSlot (b : Bk c A sl H0 H B) {i : Nat} {r : RowS} (hr : B.rows[i]? = some r) (s : Int) : Bk c A sl H0 (upd H (A.ad (.filled i)) (.dK (XB (ZP sl i r.filled) (Sum.inl s)))) (ZD B i { r with filled := drop r.filled s }) := by
 have e : XB (ZP sl i r.filled) (Sum.inl s) = ZP sl i (drop r.filled s) := Xz _ _ _
 rw [e]
 refine b.set (l := .filled i) (Xl hr) (Xl (Xo hr)) fun l' hl u h => XQ hr h (fun _ => rfl) (fun z => (hl z).elim) (fun _ => rfl) fun x ms _ q => ?_
 have q' : get (drop r.filled s) x = some ms := q
 rw [ZB] at q'
 by_cases z : x = s
 · rw [if_pos z] at q'; cases q'
 · rw [if_neg z] at q'; exact q'
theorem Xm {i : Nat} {r r' : RowS} : ZD (ZD B i r) i r' = ZD B i r' := by
 unfold ZD
 congr 1
 exact List.set_set ..
theorem Bk.book (b : Bk c A sl H0 H B) : H (A.ad .book) = some (.ins c.Book (A.dx .book) (Sa (A.ad .rack) B.now B.next (A.ad .names) (A.ad .steps) (A.ad .ticks) (A.ad .kept))) := b.here .book _ rfl
theorem Bk.rack (b : Bk c A sl H0 H B) : H (A.ad .rack) = some (.ins c.Rack (A.dx .rack) (UO (A.ad .wheels) (A.ad .rows))) := b.here .rack _ rfl
theorem Bk.wheels (b : Bk c A sl H0 H B) : H (A.ad .wheels) = some (.ins c.Wheels (A.dx .wheels) (Yx B.slots (A.ad .spans))) := b.here .wheels _ rfl
theorem Bk.spans (b : Bk c A sl H0 H B) : H (A.ad .spans) = some (.tup (B.spans.map V.int)) := b.here .spans _ rfl
theorem Bk.rows (b : Bk c A sl H0 H B) : H (A.ad .rows) = some (.lst ((List.range B.rows.length).map fun i => V.ref (A.ad (.row i)))) := b.here .rows _ rfl
theorem Bk.names (b : Bk c A sl H0 H B) : H (A.ad .names) = some (.dK (mapK (fun _ x => V.str x) B.names)) := b.here .names _ rfl
theorem Bk.steps (b : Bk c A sl H0 H B) : H (A.ad .steps) = some (.dK (mapK (fun _ x => Yi x) B.steps)) := b.here .steps _ rfl
theorem Bk.ticks (b : Bk c A sl H0 H B) : H (A.ad .ticks) = some (.dK (mapK (fun _ x => V.int x) B.ticks)) := b.here .ticks _ rfl
theorem Bk.row (b : Bk c A sl H0 H B) {i : Nat} {r : RowS} (hr : B.rows[i]? = some r) : H (A.ad (.row i)) = some (.ins c.Row (A.dx (.row i)) (rowF r.span (A.ad (.filled i)) (A.ad (.rising i)))) := b.here (.row i) _ (cont_row hr)
theorem Bk.filled (b : Bk c A sl H0 H B) {i : Nat} {r : RowS} (hr : B.rows[i]? = some r) : H (A.ad (.filled i)) = some (.dK (ZP sl i r.filled)) := b.here (.filled i) _ (Xl hr)
theorem Bk.rising (b : Bk c A sl H0 H B) {i : Nat} {r : RowS} (hr : B.rows[i]? = some r) : H (A.ad (.rising i)) = some (.lst (r.rising.map V.int)) := b.here (.rising i) _ (XR hr)
theorem Bk.slot (b : Bk c A sl H0 H B) {i : Nat} {r : RowS} {s : Int} {ns : List Int} (hr : B.rows[i]? = some r) (hs : get r.filled s = some ns) : H (sl i s) = some (.dK (numV ns)) := b.here (.slot i s) _ (Vd hr hs)
end
section
variable {c : Cl} {A : Adr} {sl : Sl} {H0 H : Hp} {B : BkS}
theorem Ub {i : Nat} {t : Dct (List Int)} {s : Int} : valV (ZP sl i t) (Sum.inl s) = (get t s).map fun _ => V.ref (sl i s) := YF _ _ _
theorem Bk.getF (b : Bk c A sl H0 H B) {i : Nat} {r : RowS} {s : Int} {ns : List Int} (hr : B.rows[i]? = some r) (hs : get r.filled s = some ns) : DGet H (A.ad (.filled i)) (.int s) (some (.ref (sl i s))) := by
 have := DGet.k (k := Sum.inl s) (b.filled hr)
 rw [Ub, hs] at this
 exact this
theorem Bk.putS (b : Bk c A sl H0 H B) {i : Nat} {r : RowS} {s n : Int} {ns : List Int} (hr : B.rows[i]? = some r) (hs : get r.filled s = some ns) (hl : ns.length < sizeLine) : DPut H (sl i s) (.int n) (.bl true) (upd H (sl i s) (.dK (numV (putN ns n)))) := by
 have := DPut.k (k := Sum.inl n) (v := .bl true) (b.slot hr hs) (by unfold numV; rw [List.length_map]; exact hl)
 rw [putK_numV] at this
 exact this
end
end Tb
end
section
namespace Tb
open PySem L2 Mir Rk
def Xh (nm : Option Str) (sp : Option (Option Int)) (t : Option Int) : Option (Al Str) := t.bind fun t => nm.bind fun x => sp.map fun s => ⟨x, t, s⟩
def wait (B : BkS) : Fn Str := fun k => Xh (get B.names k) (get B.steps k) (get B.ticks k)
def rest (B : BkS) : Fn Str := fun k => Xh (get B.names k) (get B.steps k) (get B.kept k)
structure Out (B : BkS) : Prop where
 ndT : (keys B.ticks).Nodup
 ndK : (keys B.kept).Nodup
 ndN : (keys B.names).Nodup
 ndS : (keys B.steps).Nodup
 nx : 0 ≤ B.next ∧ B.next ≤ 63
 dom : ∀ k, (get B.names k).isSome = true → 0 ≤ k ∧ k < B.next
 nm : ∀ k, (get B.names k).isSome = ((get B.ticks k).isSome || (get B.kept k).isSome)
 st : ∀ k, (get B.steps k).isSome = (get B.names k).isSome
 pos : ∀ k s, get B.steps k = some (some s) → 1 ≤ s
 dis : ∀ k, (get B.ticks k).isSome = true → get B.kept k = none
 kp : ∀ k t, get B.kept k = some t → 0 < t
theorem Us {α : Type} {t : Dct α} (nd : (keys t).Nodup) {N : Nat} (h : ∀ k, (get t k).isSome = true → 0 ≤ k ∧ k < N) : t.length ≤ N := by
 have q := nd.length_le_of_subset (l₂ := (List.range N).map (fun (i : Nat) => (i : Int))) fun k hk => by
   have hs : (get t k).isSome = true := by
     cases e : get t k with
     | none => exact (get_none.mp e hk).elim
     | some v => rfl
   obtain ⟨a, b⟩ := h k hs
   exact List.mem_map.mpr ⟨k.toNat, List.mem_range.mpr (by omega), by omega⟩
 simpa [keys] using q
section
variable {B : BkS}
theorem Out.namesT (o : Out B) {k : Int} (h : (get B.ticks k).isSome = true) : (get B.names k).isSome = true := by rw [o.nm, h]; rfl
theorem Out.namesK (o : Out B) {k : Int} (h : (get B.kept k).isSome = true) : (get B.names k).isSome = true := by rw [o.nm, h]; simp
theorem Out.domT (o : Out B) {k t : Int} (h : get B.ticks k = some t) : 0 ≤ k ∧ k < B.next := o.dom k (o.namesT (by rw [h]; rfl))
theorem Out.lens (o : Out B) : B.ticks.length ≤ 63 ∧ B.kept.length ≤ 63 ∧ B.names.length ≤ 63 ∧ B.steps.length ≤ 63 := by
 have n := o.nx
 refine ⟨Us o.ndT fun k h => ?_, Us o.ndK fun k h => ?_, Us o.ndN fun k h => ?_, Us o.ndS fun k h => ?_⟩
 · have := o.dom k (o.namesT h); omega
 · have := o.dom k (o.namesK h); omega
 · have := o.dom k h; omega
 · have := o.dom k (by rw [← o.st]; exact h); omega
theorem Out.at (o : Out B) {k : Int} (h : (get B.names k).isSome = true) : ∃ nm sp, get B.names k = some nm ∧ get B.steps k = some sp := by
 obtain ⟨nm, e1⟩ := Option.isSome_iff_exists.mp h
 obtain ⟨sp, e2⟩ := Option.isSome_iff_exists.mp (by rw [o.st]; exact h : (get B.steps k).isSome = true)
 exact ⟨nm, sp, e1, e2⟩
theorem Out.waits (o : Out B) {k t : Int} (h : get B.ticks k = some t) : ∃ nm sp, get B.names k = some nm ∧ get B.steps k = some sp ∧ wait B k = some ⟨nm, t, sp⟩ := by
 obtain ⟨nm, sp, e1, e2⟩ := o.at (o.namesT (by rw [h]; rfl))
 exact ⟨nm, sp, e1, e2, by unfold wait; rw [h, e1, e2]; rfl⟩
theorem alarm_some {nm : Option Str} {sp : Option (Option Int)} {t : Option Int} {a : Al Str} : Xh nm sp t = some a ↔ nm = some a.name ∧ sp = some a.step ∧ t = some a.tick := by
 unfold Xh
 cases t with
 | none => simp
 | some t =>
   cases nm with
   | none => simp
   | some x =>
     cases sp with
     | none => simp
     | some s =>
       obtain ⟨n', t', s'⟩ := a
       simp
       exact fun _ => And.comm
theorem Out.good (o : Out B) : GoodF 63 (wait B) := fun n a h => by
 obtain ⟨h1, h2, h3⟩ := alarm_some.mp h
 have := o.domT h3
 have n := o.nx
 exact ⟨by omega, fun k hk => by have := o.pos _ k (by rw [h2, hk]); omega⟩
def setB (B : BkS) (name : Str) (due : Int) (step : Option Int) : BkS := { B with next := B.next + 1, names := put B.names B.next name, steps := put B.steps B.next step, ticks := put B.ticks B.next due }
theorem Out.fresh (o : Out B) : get B.names B.next = none ∧ get B.steps B.next = none ∧ get B.ticks B.next = none ∧ get B.kept B.next = none := by
 have h : get B.names B.next = none := by
   cases e : get B.names B.next with
   | none => rfl
   | some v => have := o.dom B.next (by rw [e]; rfl); omega
 have h2 := o.st B.next
 have h3 := o.nm B.next
 rw [h] at h2 h3
 refine ⟨h, by simpa using h2, ?_, ?_⟩
 · cases e : get B.ticks B.next with
   | none => rfl
   | some v => rw [e] at h3; simp at h3
 · cases e : get B.kept B.next with
   | none => rfl
   | some v => rw [e] at h3; simp at h3
theorem Out.setB (o : Out B) (hn : B.next < 63) {name : Str} {due : Int} {step : Option Int} (hs : ∀ s, step = some s → 1 ≤ s) : Out (setB B name due step) where
 ndT := YO o.ndT _ _
 ndK := o.ndK
 ndN := YO o.ndN _ _
 ndS := YO o.ndS _ _
 nx := by have := o.nx; exact ⟨by show 0 ≤ B.next + 1; omega, by show B.next + 1 ≤ 63; omega⟩
 dom := fun k h => by
   have h' : (get (put B.names B.next name) k).isSome = true := h
   show 0 ≤ k ∧ k < B.next + 1
   rw [Zw] at h'
   have := o.nx
   by_cases e : k = B.next
   · omega
   · rw [if_neg e] at h'
     have := o.dom k h'
     omega
 nm := fun k => by
   show (get (put B.names B.next name) k).isSome = ((get (put B.ticks B.next due) k).isSome || (get B.kept k).isSome)
   rw [Zw, Zw]
   by_cases e : k = B.next
   · simp [e]
   · rw [if_neg e, if_neg e]; exact o.nm k
 st := fun k => by
   show (get (put B.steps B.next step) k).isSome = (get (put B.names B.next name) k).isSome
   rw [Zw, Zw]
   by_cases e : k = B.next
   · simp [e]
   · rw [if_neg e, if_neg e]; exact o.st k
 pos := fun k s h => by
   have h' : get (put B.steps B.next step) k = some (some s) := h
   rw [Zw] at h'
   by_cases e : k = B.next
   · rw [if_pos e] at h'; exact hs s (Option.some.inj h')
   · rw [if_neg e] at h'; exact o.pos k s h'
 dis := fun k h => by
   have h' : (get (put B.ticks B.next due) k).isSome = true := h
   rw [Zw] at h'
   by_cases e : k = B.next
   · rw [e]; exact o.fresh.2.2.2
   · rw [if_neg e] at h'; exact o.dis k h'
 kp := o.kp
theorem Out.wait_setB (o : Out B) {name : Str} {due : Int} {step : Option Int} : wait (Tb.setB B name due step) = fput (wait B) B.next (some ⟨name, due, step⟩) := by
 funext k
 show Xh (get (put B.names B.next name) k) (get (put B.steps B.next step) k) (get (put B.ticks B.next due) k) = _
 rw [Zw, Zw, Zw]
 unfold fput
 by_cases e : k = B.next
 · simp [e, Xh]
 · simp only [if_neg e]
   rfl
theorem Out.rest_setB (o : Out B) {name : Str} {due : Int} {step : Option Int} : rest (Tb.setB B name due step) = rest B := by
 funext k
 show Xh (get (put B.names B.next name) k) (get (put B.steps B.next step) k) (get B.kept k) = Xh (get B.names k) (get B.steps k) (get B.kept k)
 rw [Zw, Zw]
 by_cases e : k = B.next
 · rw [e, o.fresh.2.2.2]
   rfl
 · rw [if_neg e, if_neg e]
def ringB (B : BkS) (k : Int) : Option Int → BkS
 | none => { B with ticks := drop B.ticks k, steps := drop B.steps k, names := drop B.names k }
 | some s => { B with ticks := put B.ticks k (B.now + s) }
theorem Out.ringB (o : Out B) {k t : Int} {sp : Option Int} (ht : get B.ticks k = some t) (hs : get B.steps k = some sp) : Out (ringB B k sp) := by
 have hk : get B.kept k = none := o.dis k (by rw [ht]; rfl)
 cases sp with
 | none =>
   refine ⟨Xw o.ndT _, o.ndK, Xw o.ndN _, Xw o.ndS _, o.nx, fun m h => ?_, fun m => ?_, fun m => ?_, fun m s h => ?_, fun m h => ?_, o.kp⟩
   · have h' : (get (drop B.names k) m).isSome = true := h
     rw [ZB] at h'
     by_cases e : m = k
     · rw [if_pos e] at h'; cases h'
     · rw [if_neg e] at h'; exact o.dom m h'
   · show (get (drop B.names k) m).isSome = ((get (drop B.ticks k) m).isSome || (get B.kept m).isSome)
     rw [ZB, ZB]
     by_cases e : m = k
     · rw [if_pos e, if_pos e, e, hk]; rfl
     · rw [if_neg e, if_neg e]; exact o.nm m
   · show (get (drop B.steps k) m).isSome = (get (drop B.names k) m).isSome
     rw [ZB, ZB]
     by_cases e : m = k
     · rw [if_pos e, if_pos e]; rfl
     · rw [if_neg e, if_neg e]; exact o.st m
   · have h' : get (drop B.steps k) m = some (some s) := h
     rw [ZB] at h'
     by_cases e : m = k
     · rw [if_pos e] at h'; cases h'
     · rw [if_neg e] at h'; exact o.pos m s h'
   · have h' : (get (drop B.ticks k) m).isSome = true := h
     rw [ZB] at h'
     by_cases e : m = k
     · rw [if_pos e] at h'; cases h'
     · rw [if_neg e] at h'; exact o.dis m h'
 | some s =>
   refine ⟨YO o.ndT _ _, o.ndK, o.ndN, o.ndS, o.nx, o.dom, fun m => ?_, o.st, o.pos, fun m h => ?_, o.kp⟩
   · show (get B.names m).isSome = ((get (put B.ticks k (B.now + s)) m).isSome || (get B.kept m).isSome)
     rw [Zw]
     by_cases e : m = k
     · rw [if_pos e, e, o.namesT (by rw [ht]; rfl)]; rfl
     · rw [if_neg e]; exact o.nm m
   · have h' : (get (put B.ticks k (B.now + s)) m).isSome = true := h
     rw [Zw] at h'
     by_cases e : m = k
     · rw [e]; exact hk
     · rw [if_neg e] at h'; exact o.dis m h'
theorem Out.wait_ringB (o : Out B) {k : Int} {sp : Option Int} {nm : Str} (ht : get B.ticks k = some B.now) (hs : get B.steps k = some sp) (hn : get B.names k = some nm) : wait (Tb.ringB B k sp) = fput (wait B) k (after ⟨nm, B.now, sp⟩) := by
 funext m
 cases sp with
 | none =>
   show Xh (get (drop B.names k) m) (get (drop B.steps k) m) (get (drop B.ticks k) m) = _
   rw [ZB, ZB, ZB]
   unfold fput
   by_cases e : m = k
   · simp [e, Xh, after]
   · simp only [if_neg e]; rfl
 | some s =>
   show Xh (get B.names m) (get B.steps m) (get (put B.ticks k (B.now + s)) m) = _
   rw [Zw]
   unfold fput
   by_cases e : m = k
   · subst e
     simp [Xh, after, hs, hn]
   · simp only [if_neg e]; rfl
theorem Out.rest_ringB (o : Out B) {k t : Int} {sp : Option Int} (ht : get B.ticks k = some t) : rest (Tb.ringB B k sp) = rest B := by
 have hk : get B.kept k = none := o.dis k (by rw [ht]; rfl)
 cases sp with
 | none =>
   funext m
   show Xh (get (drop B.names k) m) (get (drop B.steps k) m) (get B.kept m) = Xh (get B.names m) (get B.steps m) (get B.kept m)
   rw [ZB, ZB]
   by_cases e : m = k
   · rw [e, hk]; rfl
   · rw [if_neg e, if_neg e]
 | some s => rfl
end
end Tb
end
section
namespace Tk
open PySem L2
def top (i : Nat) : Stmt := PySem.Challenge.pw_tickbook_k20_whole_just_then.main.body.getD i (.Pass ⟨0, 0, 0, 0⟩)
abbrev ZY : Stmt := top 11
abbrev Yq : Stmt := top 12
abbrev ZH : Stmt := Yn (top 13) 0
abbrev ZZ : Stmt := Yn (top 13) 1
abbrev YH : Stmt := top 15
abbrev Ya : Stmt := Yn (top 16) 0
abbrev Xc : Stmt := Yn (top 16) 1
abbrev ZS : Stmt := Yn (top 16) 3
abbrev ZT : Stmt := Yn (top 17) 0
abbrev Yk : Stmt := Yn (top 17) 1
abbrev YL : Stmt := Yn (top 17) 2
abbrev ZN : Stmt := Yn (top 17) 5
abbrev ZE : Stmt := Yn (top 17) 6
abbrev ZI : Stmt := Yn (top 17) 8
abbrev ZU : Stmt := Yn (top 19) 0
abbrev YQ : Stmt := Yn (top 19) 1
abbrev Xf : Stmt := Yn (top 19) 4
abbrev Ys : Stmt := top 20
abbrev Yt : Stmt := top 21
abbrev ZR : Stmt := top 22
abbrev ZQ : Stmt := top 23
abbrev Xn : Stmt := top 24
abbrev YA : Stmt := top 25
abbrev VR : Stmt := top 26
abbrev Xb : Stmt := top 27
abbrev Yr : Stmt := top 28
abbrev YB : Stmt := top 30
abbrev YJ : Stmt := top 31
abbrev Yu : Stmt := top 32
abbrev YI : Stmt := top 33
abbrev Yj : Stmt := top 40
abbrev Yv : Stmt := top 41
abbrev YK : Stmt := top 43
abbrev TH : Stmt := top 44
structure Ad where
 f_check_wheels : Addr
 fd_check_wheels : FuncData
 f_slot_spans : Addr
 fd_slot_spans : FuncData
 f_Wheels___init__ : Addr
 fd_Wheels___init__ : FuncData
 f_Wheels_place : Addr
 fd_Wheels_place : FuncData
 f_position : Addr
 fd_position : FuncData
 f_Row___init__ : Addr
 fd_Row___init__ : FuncData
 f_Row_put : Addr
 fd_Row_put : FuncData
 f_Row_take_slot : Addr
 fd_Row_take_slot : FuncData
 f_Rack___init__ : Addr
 fd_Rack___init__ : FuncData
 f_Rack_row_of : Addr
 fd_Rack_row_of : FuncData
 f_Rack_put : Addr
 fd_Rack_put : FuncData
 f_Rack_first_row : Addr
 fd_Rack_first_row : FuncData
 f_Rack_first_start : Addr
 fd_Rack_first_start : FuncData
 f_Rack_take_first : Addr
 fd_Rack_take_first : FuncData
 f_Book___init__ : Addr
 fd_Book___init__ : FuncData
 f_Book_time : Addr
 fd_Book_time : FuncData
 f_Book_due : Addr
 fd_Book_due : FuncData
 f_check_tick : Addr
 fd_check_tick : FuncData
 f_check_step : Addr
 fd_check_step : FuncData
 f_check_stretch : Addr
 fd_check_stretch : FuncData
 f_start_waiting : Addr
 fd_start_waiting : FuncData
 f_forget : Addr
 fd_forget : FuncData
 f_set_alarm : Addr
 fd_set_alarm : FuncData
 f_ring : Addr
 fd_ring : FuncData
 f_turn_to : Addr
 fd_turn_to : FuncData
 f_pass_ticks : Addr
 fd_pass_ticks : FuncData
 f__law_cell : Addr
 fd__law_cell : FuncData
 f__law_mix : Addr
 fd__law_mix : FuncData
 f__law_whole : Addr
 fd__law_whole : FuncData
 f__law_new : Addr
 fd__law_new : FuncData
 f__law_wheels : Addr
 fd__law_wheels : FuncData
 f__law_ticks : Addr
 fd__law_ticks : FuncData
 f__law_due : Addr
 fd__law_due : FuncData
 f_law : Addr
 fd_law : FuncData
 C_Wheels : Addr
 C_Row : Addr
 C_Rack : Addr
 C_Book : Addr
 C_TickError : Addr
 C_BadWheels : Addr
 C_Past : Addr
 C_NotThere : Addr
 t_FEWEST_SLOTS : Tok
 t_MOST_SLOTS : Tok
 t_FEWEST_LEVELS : Tok
 t_MOST_LEVELS : Tok
open W in
structure Txt (K : W.Frag) (mg : Str → Option Value) (a : Ad) : Prop where
 c_Wheels : mg "Wheels" = some (.ref a.C_Wheels)
 cl_Wheels : Cls K a.C_Wheels
 n_Wheels_slots : NoAttr K a.C_Wheels "slots"
 n_Wheels_spans : NoAttr K a.C_Wheels "spans"
 c_Row : mg "Row" = some (.ref a.C_Row)
 cl_Row : Cls K a.C_Row
 n_Row_span : NoAttr K a.C_Row "span"
 n_Row_filled : NoAttr K a.C_Row "filled"
 n_Row_rising : NoAttr K a.C_Row "rising"
 c_Rack : mg "Rack" = some (.ref a.C_Rack)
 cl_Rack : Cls K a.C_Rack
 n_Rack_wheels : NoAttr K a.C_Rack "wheels"
 n_Rack_rows : NoAttr K a.C_Rack "rows"
 c_Book : mg "Book" = some (.ref a.C_Book)
 cl_Book : Cls K a.C_Book
 n_Book_rack : NoAttr K a.C_Book "rack"
 n_Book_now : NoAttr K a.C_Book "now"
 n_Book_next_number : NoAttr K a.C_Book "next_number"
 n_Book_names : NoAttr K a.C_Book "names"
 n_Book_steps : NoAttr K a.C_Book "steps"
 n_Book_ticks : NoAttr K a.C_Book "ticks"
 n_Book_kept_ticks : NoAttr K a.C_Book "kept_ticks"
 c_TickError : mg "TickError" = some (.ref a.C_TickError)
 x_TickError : excIn K a.C_TickError bmV "ValueError.__new__" = true
 ct_TickError : Ctch K a.C_TickError
 ec_TickError : ExcC K a.C_TickError
 kv_TickError : kitOne K (.ref a.C_TickError) (.type "ValueError") = some true
 c_BadWheels : mg "BadWheels" = some (.ref a.C_BadWheels)
 x_BadWheels : excIn K a.C_BadWheels bmV "ValueError.__new__" = true
 ct_BadWheels : Ctch K a.C_BadWheels
 ec_BadWheels : ExcC K a.C_BadWheels
 kv_BadWheels : kitOne K (.ref a.C_BadWheels) (.type "ValueError") = some true
 c_Past : mg "Past" = some (.ref a.C_Past)
 x_Past : excIn K a.C_Past bmV "ValueError.__new__" = true
 ct_Past : Ctch K a.C_Past
 ec_Past : ExcC K a.C_Past
 kv_Past : kitOne K (.ref a.C_Past) (.type "ValueError") = some true
 c_NotThere : mg "NotThere" = some (.ref a.C_NotThere)
 x_NotThere : excIn K a.C_NotThere bmV "ValueError.__new__" = true
 ct_NotThere : Ctch K a.C_NotThere
 ec_NotThere : ExcC K a.C_NotThere
 kv_NotThere : kitOne K (.ref a.C_NotThere) (.type "ValueError") = some true
 sb_TickError_TickError : subIn K (.ref a.C_TickError) (.ref a.C_TickError) = some true
 kt_TickError_TickError : kitOne K (.ref a.C_TickError) (.ref a.C_TickError) = some true
 sb_TickError_BadWheels : subIn K (.ref a.C_TickError) (.ref a.C_BadWheels) = some false
 kt_TickError_BadWheels : kitOne K (.ref a.C_TickError) (.ref a.C_BadWheels) = some false
 sb_TickError_Past : subIn K (.ref a.C_TickError) (.ref a.C_Past) = some false
 kt_TickError_Past : kitOne K (.ref a.C_TickError) (.ref a.C_Past) = some false
 sb_TickError_NotThere : subIn K (.ref a.C_TickError) (.ref a.C_NotThere) = some false
 kt_TickError_NotThere : kitOne K (.ref a.C_TickError) (.ref a.C_NotThere) = some false
 sb_BadWheels_BadWheels : subIn K (.ref a.C_BadWheels) (.ref a.C_BadWheels) = some true
 kt_BadWheels_BadWheels : kitOne K (.ref a.C_BadWheels) (.ref a.C_BadWheels) = some true
 sb_BadWheels_TickError : subIn K (.ref a.C_BadWheels) (.ref a.C_TickError) = some true
 kt_BadWheels_TickError : kitOne K (.ref a.C_BadWheels) (.ref a.C_TickError) = some true
 sb_BadWheels_Past : subIn K (.ref a.C_BadWheels) (.ref a.C_Past) = some false
 kt_BadWheels_Past : kitOne K (.ref a.C_BadWheels) (.ref a.C_Past) = some false
 sb_BadWheels_NotThere : subIn K (.ref a.C_BadWheels) (.ref a.C_NotThere) = some false
 kt_BadWheels_NotThere : kitOne K (.ref a.C_BadWheels) (.ref a.C_NotThere) = some false
 sb_Past_Past : subIn K (.ref a.C_Past) (.ref a.C_Past) = some true
 kt_Past_Past : kitOne K (.ref a.C_Past) (.ref a.C_Past) = some true
 sb_Past_TickError : subIn K (.ref a.C_Past) (.ref a.C_TickError) = some true
 kt_Past_TickError : kitOne K (.ref a.C_Past) (.ref a.C_TickError) = some true
 sb_Past_BadWheels : subIn K (.ref a.C_Past) (.ref a.C_BadWheels) = some false
 kt_Past_BadWheels : kitOne K (.ref a.C_Past) (.ref a.C_BadWheels) = some false
 sb_Past_NotThere : subIn K (.ref a.C_Past) (.ref a.C_NotThere) = some false
 kt_Past_NotThere : kitOne K (.ref a.C_Past) (.ref a.C_NotThere) = some false
 sb_NotThere_NotThere : subIn K (.ref a.C_NotThere) (.ref a.C_NotThere) = some true
 kt_NotThere_NotThere : kitOne K (.ref a.C_NotThere) (.ref a.C_NotThere) = some true
 sb_NotThere_TickError : subIn K (.ref a.C_NotThere) (.ref a.C_TickError) = some true
 kt_NotThere_TickError : kitOne K (.ref a.C_NotThere) (.ref a.C_TickError) = some true
 sb_NotThere_BadWheels : subIn K (.ref a.C_NotThere) (.ref a.C_BadWheels) = some false
 kt_NotThere_BadWheels : kitOne K (.ref a.C_NotThere) (.ref a.C_BadWheels) = some false
 sb_NotThere_Past : subIn K (.ref a.C_NotThere) (.ref a.C_Past) = some false
 kt_NotThere_Past : kitOne K (.ref a.C_NotThere) (.ref a.C_Past) = some false
 f_check_wheels : mg "check_wheels" = some (.ref a.f_check_wheels)
 F_check_wheels : Fun K "check_wheels" "check_wheels" ZY a.f_check_wheels a.fd_check_wheels
 kp_check_wheels : keepIn K (.ref a.f_check_wheels) = true
 B_check_wheels : Binds K a.fd_check_wheels ["slots", "levels"] []
 f_slot_spans : mg "slot_spans" = some (.ref a.f_slot_spans)
 F_slot_spans : Fun K "slot_spans" "slot_spans" Yq a.f_slot_spans a.fd_slot_spans
 kp_slot_spans : keepIn K (.ref a.f_slot_spans) = true
 B_slot_spans : Binds K a.fd_slot_spans ["slots", "levels"] []
 F_Wheels___init__ : Fun K "__init__" "Wheels.__init__" ZH a.f_Wheels___init__ a.fd_Wheels___init__
 kp_Wheels___init__ : keepIn K (.ref a.f_Wheels___init__) = true
 B_Wheels___init__ : Binds K a.fd_Wheels___init__ ["self", "slots", "levels"] []
 m_Wheels___init__ : Meth K a.C_Wheels "__init__" a.f_Wheels___init__
 M_Wheels : Mk K a.C_Wheels a.f_Wheels___init__
 F_Wheels_place : Fun K "place" "Wheels.place" ZZ a.f_Wheels_place a.fd_Wheels_place
 kp_Wheels_place : keepIn K (.ref a.f_Wheels_place) = true
 B_Wheels_place : Binds K a.fd_Wheels_place ["self", "now", "due"] []
 m_Wheels_place : Meth K a.C_Wheels "place" a.f_Wheels_place
 f_position : mg "position" = some (.ref a.f_position)
 F_position : Fun K "position" "position" YH a.f_position a.fd_position
 kp_position : keepIn K (.ref a.f_position) = true
 B_position : Binds K a.fd_position ["rising", "value"] []
 F_Row___init__ : Fun K "__init__" "Row.__init__" Ya a.f_Row___init__ a.fd_Row___init__
 kp_Row___init__ : keepIn K (.ref a.f_Row___init__) = true
 B_Row___init__ : Binds K a.fd_Row___init__ ["self", "span"] []
 m_Row___init__ : Meth K a.C_Row "__init__" a.f_Row___init__
 M_Row : Mk K a.C_Row a.f_Row___init__
 F_Row_put : Fun K "put" "Row.put" Xc a.f_Row_put a.fd_Row_put
 kp_Row_put : keepIn K (.ref a.f_Row_put) = true
 B_Row_put : Binds K a.fd_Row_put ["self", "number", "tick"] []
 m_Row_put : Meth K a.C_Row "put" a.f_Row_put
 F_Row_take_slot : Fun K "take_slot" "Row.take_slot" ZS a.f_Row_take_slot a.fd_Row_take_slot
 kp_Row_take_slot : keepIn K (.ref a.f_Row_take_slot) = true
 B_Row_take_slot : Binds K a.fd_Row_take_slot ["self", "slot"] []
 m_Row_take_slot : Meth K a.C_Row "take_slot" a.f_Row_take_slot
 F_Rack___init__ : Fun K "__init__" "Rack.__init__" ZT a.f_Rack___init__ a.fd_Rack___init__
 kp_Rack___init__ : keepIn K (.ref a.f_Rack___init__) = true
 B_Rack___init__ : Binds K a.fd_Rack___init__ ["self", "slots", "levels"] []
 m_Rack___init__ : Meth K a.C_Rack "__init__" a.f_Rack___init__
 M_Rack : Mk K a.C_Rack a.f_Rack___init__
 F_Rack_row_of : Fun K "row_of" "Rack.row_of" Yk a.f_Rack_row_of a.fd_Rack_row_of
 kp_Rack_row_of : keepIn K (.ref a.f_Rack_row_of) = true
 B_Rack_row_of : Binds K a.fd_Rack_row_of ["self", "now", "tick"] []
 m_Rack_row_of : Meth K a.C_Rack "row_of" a.f_Rack_row_of
 F_Rack_put : Fun K "put" "Rack.put" YL a.f_Rack_put a.fd_Rack_put
 kp_Rack_put : keepIn K (.ref a.f_Rack_put) = true
 B_Rack_put : Binds K a.fd_Rack_put ["self", "now", "number", "tick"] []
 m_Rack_put : Meth K a.C_Rack "put" a.f_Rack_put
 F_Rack_first_row : Fun K "first_row" "Rack.first_row" ZN a.f_Rack_first_row a.fd_Rack_first_row
 kp_Rack_first_row : keepIn K (.ref a.f_Rack_first_row) = true
 B_Rack_first_row : Binds K a.fd_Rack_first_row ["self"] []
 m_Rack_first_row : Meth K a.C_Rack "first_row" a.f_Rack_first_row
 F_Rack_first_start : Fun K "first_start" "Rack.first_start" ZE a.f_Rack_first_start a.fd_Rack_first_start
 kp_Rack_first_start : keepIn K (.ref a.f_Rack_first_start) = true
 B_Rack_first_start : Binds K a.fd_Rack_first_start ["self"] []
 m_Rack_first_start : Meth K a.C_Rack "first_start" a.f_Rack_first_start
 F_Rack_take_first : Fun K "take_first" "Rack.take_first" ZI a.f_Rack_take_first a.fd_Rack_take_first
 kp_Rack_take_first : keepIn K (.ref a.f_Rack_take_first) = true
 B_Rack_take_first : Binds K a.fd_Rack_take_first ["self"] []
 m_Rack_take_first : Meth K a.C_Rack "take_first" a.f_Rack_take_first
 F_Book___init__ : Fun K "__init__" "Book.__init__" ZU a.f_Book___init__ a.fd_Book___init__
 kp_Book___init__ : keepIn K (.ref a.f_Book___init__) = true
 B_Book___init__ : Binds K a.fd_Book___init__ ["self", "slots", "levels"] []
 m_Book___init__ : Meth K a.C_Book "__init__" a.f_Book___init__
 M_Book : Mk K a.C_Book a.f_Book___init__
 F_Book_time : Fun K "time" "Book.time" YQ a.f_Book_time a.fd_Book_time
 kp_Book_time : keepIn K (.ref a.f_Book_time) = true
 B_Book_time : Binds K a.fd_Book_time ["self"] []
 m_Book_time : Meth K a.C_Book "time" a.f_Book_time
 F_Book_due : Fun K "due" "Book.due" Xf a.f_Book_due a.fd_Book_due
 kp_Book_due : keepIn K (.ref a.f_Book_due) = true
 B_Book_due : Binds K a.fd_Book_due ["self", "number"] []
 m_Book_due : Meth K a.C_Book "due" a.f_Book_due
 f_check_tick : mg "check_tick" = some (.ref a.f_check_tick)
 F_check_tick : Fun K "check_tick" "check_tick" Ys a.f_check_tick a.fd_check_tick
 kp_check_tick : keepIn K (.ref a.f_check_tick) = true
 B_check_tick : Binds K a.fd_check_tick ["book", "due"] []
 f_check_step : mg "check_step" = some (.ref a.f_check_step)
 F_check_step : Fun K "check_step" "check_step" Yt a.f_check_step a.fd_check_step
 kp_check_step : keepIn K (.ref a.f_check_step) = true
 B_check_step : Binds K a.fd_check_step ["step"] []
 f_check_stretch : mg "check_stretch" = some (.ref a.f_check_stretch)
 F_check_stretch : Fun K "check_stretch" "check_stretch" ZR a.f_check_stretch a.fd_check_stretch
 kp_check_stretch : keepIn K (.ref a.f_check_stretch) = true
 B_check_stretch : Binds K a.fd_check_stretch ["ticks"] []
 f_start_waiting : mg "start_waiting" = some (.ref a.f_start_waiting)
 F_start_waiting : Fun K "start_waiting" "start_waiting" ZQ a.f_start_waiting a.fd_start_waiting
 kp_start_waiting : keepIn K (.ref a.f_start_waiting) = true
 B_start_waiting : Binds K a.fd_start_waiting ["book", "number", "tick"] []
 f_forget : mg "forget" = some (.ref a.f_forget)
 F_forget : Fun K "forget" "forget" Xn a.f_forget a.fd_forget
 kp_forget : keepIn K (.ref a.f_forget) = true
 B_forget : Binds K a.fd_forget ["book", "number"] []
 f_set_alarm : mg "set_alarm" = some (.ref a.f_set_alarm)
 F_set_alarm : Fun K "set_alarm" "set_alarm" YA a.f_set_alarm a.fd_set_alarm
 kp_set_alarm : keepIn K (.ref a.f_set_alarm) = true
 B_set_alarm : Binds K a.fd_set_alarm ["book", "name", "due", "step"] []
 f_ring : mg "ring" = some (.ref a.f_ring)
 F_ring : Fun K "ring" "ring" VR a.f_ring a.fd_ring
 kp_ring : keepIn K (.ref a.f_ring) = true
 B_ring : Binds K a.fd_ring ["book", "number"] []
 f_turn_to : mg "turn_to" = some (.ref a.f_turn_to)
 F_turn_to : Fun K "turn_to" "turn_to" Xb a.f_turn_to a.fd_turn_to
 kp_turn_to : keepIn K (.ref a.f_turn_to) = true
 B_turn_to : Binds K a.fd_turn_to ["book", "start"] []
 f_pass_ticks : mg "pass_ticks" = some (.ref a.f_pass_ticks)
 F_pass_ticks : Fun K "pass_ticks" "pass_ticks" Yr a.f_pass_ticks a.fd_pass_ticks
 kp_pass_ticks : keepIn K (.ref a.f_pass_ticks) = true
 B_pass_ticks : Binds K a.fd_pass_ticks ["book", "ticks"] []
 f__law_cell : mg "_law_cell" = some (.ref a.f__law_cell)
 F__law_cell : Fun K "_law_cell" "_law_cell" YB a.f__law_cell a.fd__law_cell
 kp__law_cell : keepIn K (.ref a.f__law_cell) = true
 B__law_cell : Binds K a.fd__law_cell ["_law_script", "_law_k"] []
 f__law_mix : mg "_law_mix" = some (.ref a.f__law_mix)
 F__law_mix : Fun K "_law_mix" "_law_mix" YJ a.f__law_mix a.fd__law_mix
 kp__law_mix : keepIn K (.ref a.f__law_mix) = true
 B__law_mix : Binds K a.fd__law_mix ["_law_script", "_law_k"] []
 f__law_whole : mg "_law_whole" = some (.ref a.f__law_whole)
 F__law_whole : Fun K "_law_whole" "_law_whole" Yu a.f__law_whole a.fd__law_whole
 kp__law_whole : keepIn K (.ref a.f__law_whole) = true
 B__law_whole : Binds K a.fd__law_whole ["_law_found"] []
 f__law_new : mg "_law_new" = some (.ref a.f__law_new)
 F__law_new : Fun K "_law_new" "_law_new" YI a.f__law_new a.fd__law_new
 kp__law_new : keepIn K (.ref a.f__law_new) = true
 B__law_new : Binds K a.fd__law_new ["_law_slots", "_law_levels"] []
 f__law_wheels : mg "_law_wheels" = some (.ref a.f__law_wheels)
 F__law_wheels : Fun K "_law_wheels" "_law_wheels" Yj a.f__law_wheels a.fd__law_wheels
 kp__law_wheels : keepIn K (.ref a.f__law_wheels) = true
 B__law_wheels : Binds K a.fd__law_wheels ["_law_script", "_law_k"] []
 f__law_ticks : mg "_law_ticks" = some (.ref a.f__law_ticks)
 F__law_ticks : Fun K "_law_ticks" "_law_ticks" Yv a.f__law_ticks a.fd__law_ticks
 kp__law_ticks : keepIn K (.ref a.f__law_ticks) = true
 B__law_ticks : Binds K a.fd__law_ticks ["_law_script", "_law_k", "_law_world"] []
 f__law_due : mg "_law_due" = some (.ref a.f__law_due)
 F__law_due : Fun K "_law_due" "_law_due" YK a.f__law_due a.fd__law_due
 kp__law_due : keepIn K (.ref a.f__law_due) = true
 B__law_due : Binds K a.fd__law_due ["_law_alarms", "_law_goal"] []
 f_law : mg "law" = some (.ref a.f_law)
 F_law : Fun K "law" "law" TH a.f_law a.fd_law
 kp_law : keepIn K (.ref a.f_law) = true
 B_law : Binds K a.fd_law ["_law_script"] []
 ty_int_bool : kitOne K (.type "int") (.type "bool") = some false
 b_len : mg "len" = none
 b_range : mg "range" = none
 b_sorted : mg "sorted" = none
 b_min : mg "min" = none
 b_max : mg "max" = none
 b_sum : mg "sum" = none
 b_all : mg "all" = none
 b_isinstance : mg "isinstance" = none
 b_int : mg "int" = none
 b_bool : mg "bool" = none
 b_tuple : mg "tuple" = none
 b_list : mg "list" = none
 b_ValueError : mg "ValueError" = none
 b_enumerate : mg "enumerate" = none
 k_FEWEST_SLOTS : mg "FEWEST_SLOTS" = some (.int (2) a.t_FEWEST_SLOTS)
 k_MOST_SLOTS : mg "MOST_SLOTS" = some (.int (64) a.t_MOST_SLOTS)
 k_FEWEST_LEVELS : mg "FEWEST_LEVELS" = some (.int (1) a.t_FEWEST_LEVELS)
 k_MOST_LEVELS : mg "MOST_LEVELS" = some (.int (6) a.t_MOST_LEVELS)
set_option maxHeartbeats 0 in
open W in
theorem txt_mk {K : W.Frag} {h : Heap} {mg : Str → Option Value} (X : K.In h) (G : h.Ns mainGlobals mg)
   {f0 f1 f2 f3 f4 f5 f6 f7 f8 f9 f10 f11 f12 f13 f14 f15 f16 f17 f18 f19 f20 f21 f22 f23 f24 f25 f26 f27 f28 f29 f30 f31 f32 f33 : Addr}
   {o0 o1 o2 o3 o4 o5 o6 o7 o8 o9 o10 o11 o12 o13 o14 o15 o16 o17 o18 o19 o20 o21 o22 o23 o24 o25 o26 o27 o28 o29 o30 o31 o32 o33 k0 k1 k2 k3 k4 k5 k6 k7 k8 k9 k10 k11 k12 k13 k14 k15 k16 k17 k18 k19 k20 k21 k22 k23 k24 k25 k26 k27 k28 k29 k30 k31 k32 k33 d0 d1 d2 d3 d4 d5 d6 d7 d8 d9 d10 d11 d12 d13 d14 d15 d16 d17 d18 d19 d20 d21 d22 d23 d24 d25 d26 d27 d28 d29 d30 d31 d32 d33 p0 p1 p2 p3 p4 p5 p6 p7 p8 p9 p10 p11 p12 p13 p14 p15 p16 p17 p18 p19 p20 p21 p22 p23 p24 p25 p26 p27 p28 p29 p30 p31 p32 p33 c0 c1 c2 c3 c4 c5 c6 c7 c8 c9 c10 c11 c12 c13 c14 c15 c16 c17 c18 c19 c20 c21 c22 c23 c24 c25 c26 c27 c28 c29 c30 c31 c32 c33 t0 t1 t2 t3 t4 t5 t6 t7 t8 t9 t10 t11 t12 t13 t14 t15 t16 t17 t18 t19 t20 t21 t22 t23 t24 t25 t26 t27 t28 t29 t30 t31 t32 t33 : Value}
   {u0 u1 u2 u3 u4 u5 u6 u7 u8 u9 u10 u11 u12 u13 u14 u15 u16 u17 u18 u19 u20 u21 u22 u23 u24 u25 u26 u27 u28 u29 u30 u31 u32 u33 n0 n1 n2 n3 n4 n5 n6 n7 n8 n9 n10 n11 n12 n13 n14 n15 n16 n17 n18 n19 n20 n21 n22 n23 n24 n25 n26 n27 n28 n29 n30 n31 n32 n33 : Option Addr}
   {l0 l1 l2 l3 l4 l5 l6 l7 l8 l9 l10 l11 l12 l13 l14 l15 l16 l17 l18 l19 l20 l21 l22 l23 l24 l25 l26 l27 l28 l29 l30 l31 l32 l33 : Array (Option Value)}
   {C_Wheels : Addr}
   {C_Row : Addr}
   {C_Rack : Addr}
   {C_Book : Addr}
   {C_TickError : Addr}
   {C_BadWheels : Addr}
   {C_Past : Addr}
   {C_NotThere : Addr}
   {t_FEWEST_SLOTS : Tok}
   {t_MOST_SLOTS : Tok}
   {t_FEWEST_LEVELS : Tok}
   {t_MOST_LEVELS : Tok}
 (e1 : nsIn K mainGlobals "Wheels" = some (some (.ref C_Wheels)))
 (e2 : plainGet K C_Wheels Str.empty = true)
 (e3 : hasDictIn K C_Wheels = true)
 (e4 : plainOver K C_Wheels = true)
 (e5 : findIn K (.ref C_Wheels) "__setattr__" = some (some (.builtin "object.__setattr__")))
 (e6 : findIn K (.ref C_Wheels) "slots" = some none)
 (e7 : findIn K (.ref C_Wheels) "spans" = some none)
 (e8 : nsIn K mainGlobals "Row" = some (some (.ref C_Row)))
 (e9 : plainGet K C_Row Str.empty = true)
 (e10 : hasDictIn K C_Row = true)
 (e11 : plainOver K C_Row = true)
 (e12 : findIn K (.ref C_Row) "__setattr__" = some (some (.builtin "object.__setattr__")))
 (e13 : findIn K (.ref C_Row) "span" = some none)
 (e14 : findIn K (.ref C_Row) "filled" = some none)
 (e15 : findIn K (.ref C_Row) "rising" = some none)
 (e16 : nsIn K mainGlobals "Rack" = some (some (.ref C_Rack)))
 (e17 : plainGet K C_Rack Str.empty = true)
 (e18 : hasDictIn K C_Rack = true)
 (e19 : plainOver K C_Rack = true)
 (e20 : findIn K (.ref C_Rack) "__setattr__" = some (some (.builtin "object.__setattr__")))
 (e21 : findIn K (.ref C_Rack) "wheels" = some none)
 (e22 : findIn K (.ref C_Rack) "rows" = some none)
 (e23 : nsIn K mainGlobals "Book" = some (some (.ref C_Book)))
 (e24 : plainGet K C_Book Str.empty = true)
 (e25 : hasDictIn K C_Book = true)
 (e26 : plainOver K C_Book = true)
 (e27 : findIn K (.ref C_Book) "__setattr__" = some (some (.builtin "object.__setattr__")))
 (e28 : findIn K (.ref C_Book) "rack" = some none)
 (e29 : findIn K (.ref C_Book) "now" = some none)
 (e30 : findIn K (.ref C_Book) "next_number" = some none)
 (e31 : findIn K (.ref C_Book) "names" = some none)
 (e32 : findIn K (.ref C_Book) "steps" = some none)
 (e33 : findIn K (.ref C_Book) "ticks" = some none)
 (e34 : findIn K (.ref C_Book) "kept_ticks" = some none)
 (e35 : nsIn K mainGlobals "TickError" = some (some (.ref C_TickError)))
 (e36 : excIn K C_TickError [.type "ValueError", .type "Exception", .type "BaseException", .type "object"] "ValueError.__new__" = true)
 (e37 : mroIn K C_TickError (.type "object") = some true)
 (e38 : mroIn K C_TickError (.type "BaseException") = some true)
 (e39 : instIn K (.ref C_TickError) (.type "tuple") = some false)
 (e40 : subIn K (.ref C_TickError) (.type "BaseException") = some true)
 (e41 : findIn K (.ref C_TickError) "__getattribute__" = some (some (.builtin "BaseException.__getattribute__")))
 (e42 : findIn K (.ref C_TickError) "__getattr__" = some none)
 (e43 : findIn K (.ref C_TickError) "__class__" = some (some (.builtin "object.__class__")))
 (e44 : typeIn K (.ref C_TickError) = some (.type "type"))
 (e45 : subIn K (.ref C_TickError) (.type "ValueError") = some true)
 (e46 : nsIn K mainGlobals "BadWheels" = some (some (.ref C_BadWheels)))
 (e47 : excIn K C_BadWheels [.type "ValueError", .type "Exception", .type "BaseException", .type "object"] "ValueError.__new__" = true)
 (e48 : mroIn K C_BadWheels (.type "object") = some true)
 (e49 : mroIn K C_BadWheels (.type "BaseException") = some true)
 (e50 : instIn K (.ref C_BadWheels) (.type "tuple") = some false)
 (e51 : subIn K (.ref C_BadWheels) (.type "BaseException") = some true)
 (e52 : findIn K (.ref C_BadWheels) "__getattribute__" = some (some (.builtin "BaseException.__getattribute__")))
 (e53 : findIn K (.ref C_BadWheels) "__getattr__" = some none)
 (e54 : findIn K (.ref C_BadWheels) "__class__" = some (some (.builtin "object.__class__")))
 (e55 : typeIn K (.ref C_BadWheels) = some (.type "type"))
 (e56 : subIn K (.ref C_BadWheels) (.type "ValueError") = some true)
 (e57 : nsIn K mainGlobals "Past" = some (some (.ref C_Past)))
 (e58 : excIn K C_Past [.type "ValueError", .type "Exception", .type "BaseException", .type "object"] "ValueError.__new__" = true)
 (e59 : mroIn K C_Past (.type "object") = some true)
 (e60 : mroIn K C_Past (.type "BaseException") = some true)
 (e61 : instIn K (.ref C_Past) (.type "tuple") = some false)
 (e62 : subIn K (.ref C_Past) (.type "BaseException") = some true)
 (e63 : findIn K (.ref C_Past) "__getattribute__" = some (some (.builtin "BaseException.__getattribute__")))
 (e64 : findIn K (.ref C_Past) "__getattr__" = some none)
 (e65 : findIn K (.ref C_Past) "__class__" = some (some (.builtin "object.__class__")))
 (e66 : typeIn K (.ref C_Past) = some (.type "type"))
 (e67 : subIn K (.ref C_Past) (.type "ValueError") = some true)
 (e68 : nsIn K mainGlobals "NotThere" = some (some (.ref C_NotThere)))
 (e69 : excIn K C_NotThere [.type "ValueError", .type "Exception", .type "BaseException", .type "object"] "ValueError.__new__" = true)
 (e70 : mroIn K C_NotThere (.type "object") = some true)
 (e71 : mroIn K C_NotThere (.type "BaseException") = some true)
 (e72 : instIn K (.ref C_NotThere) (.type "tuple") = some false)
 (e73 : subIn K (.ref C_NotThere) (.type "BaseException") = some true)
 (e74 : findIn K (.ref C_NotThere) "__getattribute__" = some (some (.builtin "BaseException.__getattribute__")))
 (e75 : findIn K (.ref C_NotThere) "__getattr__" = some none)
 (e76 : findIn K (.ref C_NotThere) "__class__" = some (some (.builtin "object.__class__")))
 (e77 : typeIn K (.ref C_NotThere) = some (.type "type"))
 (e78 : subIn K (.ref C_NotThere) (.type "ValueError") = some true)
 (e79 : subIn K (.ref C_TickError) (.ref C_TickError) = some true)
 (e80 : subIn K (.ref C_TickError) (.ref C_BadWheels) = some false)
 (e81 : subIn K (.ref C_TickError) (.ref C_Past) = some false)
 (e82 : subIn K (.ref C_TickError) (.ref C_NotThere) = some false)
 (e83 : subIn K (.ref C_BadWheels) (.ref C_BadWheels) = some true)
 (e84 : subIn K (.ref C_BadWheels) (.ref C_TickError) = some true)
 (e85 : subIn K (.ref C_BadWheels) (.ref C_Past) = some false)
 (e86 : subIn K (.ref C_BadWheels) (.ref C_NotThere) = some false)
 (e87 : subIn K (.ref C_Past) (.ref C_Past) = some true)
 (e88 : subIn K (.ref C_Past) (.ref C_TickError) = some true)
 (e89 : subIn K (.ref C_Past) (.ref C_BadWheels) = some false)
 (e90 : subIn K (.ref C_Past) (.ref C_NotThere) = some false)
 (e91 : subIn K (.ref C_NotThere) (.ref C_NotThere) = some true)
 (e92 : subIn K (.ref C_NotThere) (.ref C_TickError) = some true)
 (e93 : subIn K (.ref C_NotThere) (.ref C_BadWheels) = some false)
 (e94 : subIn K (.ref C_NotThere) (.ref C_Past) = some false)
 (e95 : nsIn K mainGlobals "check_wheels" = some (some (.ref f0)))
 (e96 : K.lookup f0 = some ⟨o0, u0, .func (fnOf "check_wheels" "check_wheels" (Zo ZY) (Zn ZY) (Ze ZY) .none k0 d0 p0 n0 c0 t0), l0⟩)
 (e97 : codeIn K c0 "check_wheels" = true)
 (e98 : keepIn K (.ref f0) = true)
 (e99 : nsIn K mainGlobals "slot_spans" = some (some (.ref f1)))
 (e100 : K.lookup f1 = some ⟨o1, u1, .func (fnOf "slot_spans" "slot_spans" (Zo Yq) (Zn Yq) (Ze Yq) .none k1 d1 p1 n1 c1 t1), l1⟩)
 (e101 : codeIn K c1 "slot_spans" = true)
 (e102 : keepIn K (.ref f1) = true)
 (e103 : findIn K (.ref C_Wheels) "__init__" = some (some (.ref f2)))
 (e104 : isFn K (.ref f2) = true)
 (e105 : K.lookup f2 = some ⟨o2, u2, .func (fnOf "__init__" "Wheels.__init__" (Zo ZH) (Zn ZH) (Ze ZH) .none k2 d2 p2 n2 c2 t2), l2⟩)
 (e106 : codeIn K c2 "Wheels.__init__" = true)
 (e107 : keepIn K (.ref f2) = true)
 (e108 : makesIn K C_Wheels = true)
 (e109 : keepIn K (.ref C_Wheels) = true)
 (e110 : findIn K (.ref C_Wheels) "place" = some (some (.ref f3)))
 (e111 : isFn K (.ref f3) = true)
 (e112 : K.lookup f3 = some ⟨o3, u3, .func (fnOf "place" "Wheels.place" (Zo ZZ) (Zn ZZ) (Ze ZZ) .none k3 d3 p3 n3 c3 t3), l3⟩)
 (e113 : codeIn K c3 "Wheels.place" = true)
 (e114 : keepIn K (.ref f3) = true)
 (e115 : nsIn K mainGlobals "position" = some (some (.ref f4)))
 (e116 : K.lookup f4 = some ⟨o4, u4, .func (fnOf "position" "position" (Zo YH) (Zn YH) (Ze YH) .none k4 d4 p4 n4 c4 t4), l4⟩)
 (e117 : codeIn K c4 "position" = true)
 (e118 : keepIn K (.ref f4) = true)
 (e119 : findIn K (.ref C_Row) "__init__" = some (some (.ref f5)))
 (e120 : isFn K (.ref f5) = true)
 (e121 : K.lookup f5 = some ⟨o5, u5, .func (fnOf "__init__" "Row.__init__" (Zo Ya) (Zn Ya) (Ze Ya) .none k5 d5 p5 n5 c5 t5), l5⟩)
 (e122 : codeIn K c5 "Row.__init__" = true)
 (e123 : keepIn K (.ref f5) = true)
 (e124 : makesIn K C_Row = true)
 (e125 : keepIn K (.ref C_Row) = true)
 (e126 : findIn K (.ref C_Row) "put" = some (some (.ref f6)))
 (e127 : isFn K (.ref f6) = true)
 (e128 : K.lookup f6 = some ⟨o6, u6, .func (fnOf "put" "Row.put" (Zo Xc) (Zn Xc) (Ze Xc) .none k6 d6 p6 n6 c6 t6), l6⟩)
 (e129 : codeIn K c6 "Row.put" = true)
 (e130 : keepIn K (.ref f6) = true)
 (e131 : findIn K (.ref C_Row) "take_slot" = some (some (.ref f7)))
 (e132 : isFn K (.ref f7) = true)
 (e133 : K.lookup f7 = some ⟨o7, u7, .func (fnOf "take_slot" "Row.take_slot" (Zo ZS) (Zn ZS) (Ze ZS) .none k7 d7 p7 n7 c7 t7), l7⟩)
 (e134 : codeIn K c7 "Row.take_slot" = true)
 (e135 : keepIn K (.ref f7) = true)
 (e136 : findIn K (.ref C_Rack) "__init__" = some (some (.ref f8)))
 (e137 : isFn K (.ref f8) = true)
 (e138 : K.lookup f8 = some ⟨o8, u8, .func (fnOf "__init__" "Rack.__init__" (Zo ZT) (Zn ZT) (Ze ZT) .none k8 d8 p8 n8 c8 t8), l8⟩)
 (e139 : codeIn K c8 "Rack.__init__" = true)
 (e140 : keepIn K (.ref f8) = true)
 (e141 : makesIn K C_Rack = true)
 (e142 : keepIn K (.ref C_Rack) = true)
 (e143 : findIn K (.ref C_Rack) "row_of" = some (some (.ref f9)))
 (e144 : isFn K (.ref f9) = true)
 (e145 : K.lookup f9 = some ⟨o9, u9, .func (fnOf "row_of" "Rack.row_of" (Zo Yk) (Zn Yk) (Ze Yk) .none k9 d9 p9 n9 c9 t9), l9⟩)
 (e146 : codeIn K c9 "Rack.row_of" = true)
 (e147 : keepIn K (.ref f9) = true)
 (e148 : findIn K (.ref C_Rack) "put" = some (some (.ref f10)))
 (e149 : isFn K (.ref f10) = true)
 (e150 : K.lookup f10 = some ⟨o10, u10, .func (fnOf "put" "Rack.put" (Zo YL) (Zn YL) (Ze YL) .none k10 d10 p10 n10 c10 t10), l10⟩)
 (e151 : codeIn K c10 "Rack.put" = true)
 (e152 : keepIn K (.ref f10) = true)
 (e153 : findIn K (.ref C_Rack) "first_row" = some (some (.ref f11)))
 (e154 : isFn K (.ref f11) = true)
 (e155 : K.lookup f11 = some ⟨o11, u11, .func (fnOf "first_row" "Rack.first_row" (Zo ZN) (Zn ZN) (Ze ZN) .none k11 d11 p11 n11 c11 t11), l11⟩)
 (e156 : codeIn K c11 "Rack.first_row" = true)
 (e157 : keepIn K (.ref f11) = true)
 (e158 : findIn K (.ref C_Rack) "first_start" = some (some (.ref f12)))
 (e159 : isFn K (.ref f12) = true)
 (e160 : K.lookup f12 = some ⟨o12, u12, .func (fnOf "first_start" "Rack.first_start" (Zo ZE) (Zn ZE) (Ze ZE) .none k12 d12 p12 n12 c12 t12), l12⟩)
 (e161 : codeIn K c12 "Rack.first_start" = true)
 (e162 : keepIn K (.ref f12) = true)
 (e163 : findIn K (.ref C_Rack) "take_first" = some (some (.ref f13)))
 (e164 : isFn K (.ref f13) = true)
 (e165 : K.lookup f13 = some ⟨o13, u13, .func (fnOf "take_first" "Rack.take_first" (Zo ZI) (Zn ZI) (Ze ZI) .none k13 d13 p13 n13 c13 t13), l13⟩)
 (e166 : codeIn K c13 "Rack.take_first" = true)
 (e167 : keepIn K (.ref f13) = true)
 (e168 : findIn K (.ref C_Book) "__init__" = some (some (.ref f14)))
 (e169 : isFn K (.ref f14) = true)
 (e170 : K.lookup f14 = some ⟨o14, u14, .func (fnOf "__init__" "Book.__init__" (Zo ZU) (Zn ZU) (Ze ZU) .none k14 d14 p14 n14 c14 t14), l14⟩)
 (e171 : codeIn K c14 "Book.__init__" = true)
 (e172 : keepIn K (.ref f14) = true)
 (e173 : makesIn K C_Book = true)
 (e174 : keepIn K (.ref C_Book) = true)
 (e175 : findIn K (.ref C_Book) "time" = some (some (.ref f15)))
 (e176 : isFn K (.ref f15) = true)
 (e177 : K.lookup f15 = some ⟨o15, u15, .func (fnOf "time" "Book.time" (Zo YQ) (Zn YQ) (Ze YQ) .none k15 d15 p15 n15 c15 t15), l15⟩)
 (e178 : codeIn K c15 "Book.time" = true)
 (e179 : keepIn K (.ref f15) = true)
 (e180 : findIn K (.ref C_Book) "due" = some (some (.ref f16)))
 (e181 : isFn K (.ref f16) = true)
 (e182 : K.lookup f16 = some ⟨o16, u16, .func (fnOf "due" "Book.due" (Zo Xf) (Zn Xf) (Ze Xf) .none k16 d16 p16 n16 c16 t16), l16⟩)
 (e183 : codeIn K c16 "Book.due" = true)
 (e184 : keepIn K (.ref f16) = true)
 (e185 : nsIn K mainGlobals "check_tick" = some (some (.ref f17)))
 (e186 : K.lookup f17 = some ⟨o17, u17, .func (fnOf "check_tick" "check_tick" (Zo Ys) (Zn Ys) (Ze Ys) .none k17 d17 p17 n17 c17 t17), l17⟩)
 (e187 : codeIn K c17 "check_tick" = true)
 (e188 : keepIn K (.ref f17) = true)
 (e189 : nsIn K mainGlobals "check_step" = some (some (.ref f18)))
 (e190 : K.lookup f18 = some ⟨o18, u18, .func (fnOf "check_step" "check_step" (Zo Yt) (Zn Yt) (Ze Yt) .none k18 d18 p18 n18 c18 t18), l18⟩)
 (e191 : codeIn K c18 "check_step" = true)
 (e192 : keepIn K (.ref f18) = true)
 (e193 : nsIn K mainGlobals "check_stretch" = some (some (.ref f19)))
 (e194 : K.lookup f19 = some ⟨o19, u19, .func (fnOf "check_stretch" "check_stretch" (Zo ZR) (Zn ZR) (Ze ZR) .none k19 d19 p19 n19 c19 t19), l19⟩)
 (e195 : codeIn K c19 "check_stretch" = true)
 (e196 : keepIn K (.ref f19) = true)
 (e197 : nsIn K mainGlobals "start_waiting" = some (some (.ref f20)))
 (e198 : K.lookup f20 = some ⟨o20, u20, .func (fnOf "start_waiting" "start_waiting" (Zo ZQ) (Zn ZQ) (Ze ZQ) .none k20 d20 p20 n20 c20 t20), l20⟩)
 (e199 : codeIn K c20 "start_waiting" = true)
 (e200 : keepIn K (.ref f20) = true)
 (e201 : nsIn K mainGlobals "forget" = some (some (.ref f21)))
 (e202 : K.lookup f21 = some ⟨o21, u21, .func (fnOf "forget" "forget" (Zo Xn) (Zn Xn) (Ze Xn) .none k21 d21 p21 n21 c21 t21), l21⟩)
 (e203 : codeIn K c21 "forget" = true)
 (e204 : keepIn K (.ref f21) = true)
 (e205 : nsIn K mainGlobals "set_alarm" = some (some (.ref f22)))
 (e206 : K.lookup f22 = some ⟨o22, u22, .func (fnOf "set_alarm" "set_alarm" (Zo YA) (Zn YA) (Ze YA) .none k22 d22 p22 n22 c22 t22), l22⟩)
 (e207 : codeIn K c22 "set_alarm" = true)
 (e208 : keepIn K (.ref f22) = true)
 (e209 : nsIn K mainGlobals "ring" = some (some (.ref f23)))
 (e210 : K.lookup f23 = some ⟨o23, u23, .func (fnOf "ring" "ring" (Zo VR) (Zn VR) (Ze VR) .none k23 d23 p23 n23 c23 t23), l23⟩)
 (e211 : codeIn K c23 "ring" = true)
 (e212 : keepIn K (.ref f23) = true)
 (e213 : nsIn K mainGlobals "turn_to" = some (some (.ref f24)))
 (e214 : K.lookup f24 = some ⟨o24, u24, .func (fnOf "turn_to" "turn_to" (Zo Xb) (Zn Xb) (Ze Xb) .none k24 d24 p24 n24 c24 t24), l24⟩)
 (e215 : codeIn K c24 "turn_to" = true)
 (e216 : keepIn K (.ref f24) = true)
 (e217 : nsIn K mainGlobals "pass_ticks" = some (some (.ref f25)))
 (e218 : K.lookup f25 = some ⟨o25, u25, .func (fnOf "pass_ticks" "pass_ticks" (Zo Yr) (Zn Yr) (Ze Yr) .none k25 d25 p25 n25 c25 t25), l25⟩)
 (e219 : codeIn K c25 "pass_ticks" = true)
 (e220 : keepIn K (.ref f25) = true)
 (e221 : nsIn K mainGlobals "_law_cell" = some (some (.ref f26)))
 (e222 : K.lookup f26 = some ⟨o26, u26, .func (fnOf "_law_cell" "_law_cell" (Zo YB) (Zn YB) (Ze YB) .none k26 d26 p26 n26 c26 t26), l26⟩)
 (e223 : codeIn K c26 "_law_cell" = true)
 (e224 : keepIn K (.ref f26) = true)
 (e225 : nsIn K mainGlobals "_law_mix" = some (some (.ref f27)))
 (e226 : K.lookup f27 = some ⟨o27, u27, .func (fnOf "_law_mix" "_law_mix" (Zo YJ) (Zn YJ) (Ze YJ) .none k27 d27 p27 n27 c27 t27), l27⟩)
 (e227 : codeIn K c27 "_law_mix" = true)
 (e228 : keepIn K (.ref f27) = true)
 (e229 : nsIn K mainGlobals "_law_whole" = some (some (.ref f28)))
 (e230 : K.lookup f28 = some ⟨o28, u28, .func (fnOf "_law_whole" "_law_whole" (Zo Yu) (Zn Yu) (Ze Yu) .none k28 d28 p28 n28 c28 t28), l28⟩)
 (e231 : codeIn K c28 "_law_whole" = true)
 (e232 : keepIn K (.ref f28) = true)
 (e233 : nsIn K mainGlobals "_law_new" = some (some (.ref f29)))
 (e234 : K.lookup f29 = some ⟨o29, u29, .func (fnOf "_law_new" "_law_new" (Zo YI) (Zn YI) (Ze YI) .none k29 d29 p29 n29 c29 t29), l29⟩)
 (e235 : codeIn K c29 "_law_new" = true)
 (e236 : keepIn K (.ref f29) = true)
 (e237 : nsIn K mainGlobals "_law_wheels" = some (some (.ref f30)))
 (e238 : K.lookup f30 = some ⟨o30, u30, .func (fnOf "_law_wheels" "_law_wheels" (Zo Yj) (Zn Yj) (Ze Yj) .none k30 d30 p30 n30 c30 t30), l30⟩)
 (e239 : codeIn K c30 "_law_wheels" = true)
 (e240 : keepIn K (.ref f30) = true)
 (e241 : nsIn K mainGlobals "_law_ticks" = some (some (.ref f31)))
 (e242 : K.lookup f31 = some ⟨o31, u31, .func (fnOf "_law_ticks" "_law_ticks" (Zo Yv) (Zn Yv) (Ze Yv) .none k31 d31 p31 n31 c31 t31), l31⟩)
 (e243 : codeIn K c31 "_law_ticks" = true)
 (e244 : keepIn K (.ref f31) = true)
 (e245 : nsIn K mainGlobals "_law_due" = some (some (.ref f32)))
 (e246 : K.lookup f32 = some ⟨o32, u32, .func (fnOf "_law_due" "_law_due" (Zo YK) (Zn YK) (Ze YK) .none k32 d32 p32 n32 c32 t32), l32⟩)
 (e247 : codeIn K c32 "_law_due" = true)
 (e248 : keepIn K (.ref f32) = true)
 (e249 : nsIn K mainGlobals "law" = some (some (.ref f33)))
 (e250 : K.lookup f33 = some ⟨o33, u33, .func (fnOf "law" "law" (Zo TH) (Zn TH) (Ze TH) .none k33 d33 p33 n33 c33 t33), l33⟩)
 (e251 : codeIn K c33 "law" = true)
 (e252 : keepIn K (.ref f33) = true)
 (e253 : subIn K (.type "int") (.type "bool") = some false)
 (e254 : nsIn K mainGlobals "len" = some none)
 (e255 : nsIn K mainGlobals "range" = some none)
 (e256 : nsIn K mainGlobals "sorted" = some none)
 (e257 : nsIn K mainGlobals "min" = some none)
 (e258 : nsIn K mainGlobals "max" = some none)
 (e259 : nsIn K mainGlobals "sum" = some none)
 (e260 : nsIn K mainGlobals "all" = some none)
 (e261 : nsIn K mainGlobals "isinstance" = some none)
 (e262 : nsIn K mainGlobals "int" = some none)
 (e263 : nsIn K mainGlobals "bool" = some none)
 (e264 : nsIn K mainGlobals "tuple" = some none)
 (e265 : nsIn K mainGlobals "list" = some none)
 (e266 : nsIn K mainGlobals "ValueError" = some none)
 (e267 : nsIn K mainGlobals "enumerate" = some none)
 (e268 : nsIn K mainGlobals "FEWEST_SLOTS" = some (some (.int (2) t_FEWEST_SLOTS)))
 (e269 : nsIn K mainGlobals "MOST_SLOTS" = some (some (.int (64) t_MOST_SLOTS)))
 (e270 : nsIn K mainGlobals "FEWEST_LEVELS" = some (some (.int (1) t_FEWEST_LEVELS)))
 (e271 : nsIn K mainGlobals "MOST_LEVELS" = some (some (.int (6) t_MOST_LEVELS)))
   : ∃ a : Ad, Txt K mg a :=
 ⟨⟨f0, _, f1, _, f2, _, f3, _, f4, _, f5, _, f6, _, f7, _, f8, _, f9, _, f10, _, f11, _, f12, _, f13, _, f14, _, f15, _, f16, _, f17, _, f18, _, f19, _, f20, _, f21, _, f22, _, f23, _, f24, _, f25, _, f26, _, f27, _, f28, _, f29, _, f30, _, f31, _, f32, _, f33, _, C_Wheels, C_Row, C_Rack, C_Book, C_TickError, C_BadWheels, C_Past, C_NotThere, t_FEWEST_SLOTS, t_MOST_SLOTS, t_FEWEST_LEVELS, t_MOST_LEVELS⟩, ⟨mg_of X G e1, ⟨e2, e3, e4, e5⟩, e6, e7, mg_of X G e8, ⟨e9, e10, e11, e12⟩, e13, e14, e15, mg_of X G e16, ⟨e17, e18, e19, e20⟩, e21, e22, mg_of X G e23, ⟨e24, e25, e26, e27⟩, e28, e29, e30, e31, e32, e33, e34, mg_of X G e35, e36, ⟨e39, Zq e37, e40⟩, ⟨e41, e42, e43, e37, e38, Zq e37⟩, Tf rfl e45, mg_of X G e46, e47, ⟨e50, Zq e48, e51⟩, ⟨e52, e53, e54, e48, e49, Zq e48⟩, Tf rfl e56, mg_of X G e57, e58, ⟨e61, Zq e59, e62⟩, ⟨e63, e64, e65, e59, e60, Zq e59⟩, Tf rfl e67, mg_of X G e68, e69, ⟨e72, Zq e70, e73⟩, ⟨e74, e75, e76, e70, e71, Zq e70⟩, Tf rfl e78, e79, XL, e80, YD e55 (Zq e48) e80 e79, e81, YD e66 (Zq e59) e81 e79, e82, YD e77 (Zq e70) e82 e79, e83, XL, e84, Uu e44 (Zq e37) e84, e85, YD e66 (Zq e59) e85 e83, e86, YD e77 (Zq e70) e86 e83, e87, XL, e88, Uu e44 (Zq e37) e88, e89, YD e55 (Zq e48) e89 e87, e90, YD e77 (Zq e70) e90 e87, e91, XL, e92, Uu e44 (Zq e37) e92, e93, YD e55 (Zq e48) e93 e91, e94, YD e66 (Zq e59) e94 e91, mg_of X G e95, Zl e96 e97 e98, e98, ((Zl (st := ZY) e96 e97 e98).binds fun _ _ _ _ _ _ us hl => match us, hl with | [_, _], _ => rfl), mg_of X G e99, Zl e100 e101 e102, e102, ((Zl (st := Yq) e100 e101 e102).binds fun _ _ _ _ _ _ us hl => match us, hl with | [_, _], _ => rfl), Zl e105 e106 e107, e107, ((Zl (st := ZH) e105 e106 e107).binds fun _ _ _ _ _ _ us hl => match us, hl with | [_, _, _], _ => rfl), ⟨e103, e104, e107⟩, ⟨e108, e103, e104, e109⟩, Zl e112 e113 e114, e114, ((Zl (st := ZZ) e112 e113 e114).binds fun _ _ _ _ _ _ us hl => match us, hl with | [_, _, _], _ => rfl), ⟨e110, e111, e114⟩, mg_of X G e115, Zl e116 e117 e118, e118, ((Zl (st := YH) e116 e117 e118).binds fun _ _ _ _ _ _ us hl => match us, hl with | [_, _], _ => rfl), Zl e121 e122 e123, e123, ((Zl (st := Ya) e121 e122 e123).binds fun _ _ _ _ _ _ us hl => match us, hl with | [_, _], _ => rfl), ⟨e119, e120, e123⟩, ⟨e124, e119, e120, e125⟩, Zl e128 e129 e130, e130, ((Zl (st := Xc) e128 e129 e130).binds fun _ _ _ _ _ _ us hl => match us, hl with | [_, _, _], _ => rfl), ⟨e126, e127, e130⟩, Zl e133 e134 e135, e135, ((Zl (st := ZS) e133 e134 e135).binds fun _ _ _ _ _ _ us hl => match us, hl with | [_, _], _ => rfl), ⟨e131, e132, e135⟩, Zl e138 e139 e140, e140, ((Zl (st := ZT) e138 e139 e140).binds fun _ _ _ _ _ _ us hl => match us, hl with | [_, _, _], _ => rfl), ⟨e136, e137, e140⟩, ⟨e141, e136, e137, e142⟩, Zl e145 e146 e147, e147, ((Zl (st := Yk) e145 e146 e147).binds fun _ _ _ _ _ _ us hl => match us, hl with | [_, _, _], _ => rfl), ⟨e143, e144, e147⟩, Zl e150 e151 e152, e152, ((Zl (st := YL) e150 e151 e152).binds fun _ _ _ _ _ _ us hl => match us, hl with | [_, _, _, _], _ => rfl), ⟨e148, e149, e152⟩, Zl e155 e156 e157, e157, ((Zl (st := ZN) e155 e156 e157).binds fun _ _ _ _ _ _ us hl => match us, hl with | [_], _ => rfl), ⟨e153, e154, e157⟩, Zl e160 e161 e162, e162, ((Zl (st := ZE) e160 e161 e162).binds fun _ _ _ _ _ _ us hl => match us, hl with | [_], _ => rfl), ⟨e158, e159, e162⟩, Zl e165 e166 e167, e167, ((Zl (st := ZI) e165 e166 e167).binds fun _ _ _ _ _ _ us hl => match us, hl with | [_], _ => rfl), ⟨e163, e164, e167⟩, Zl e170 e171 e172, e172, ((Zl (st := ZU) e170 e171 e172).binds fun _ _ _ _ _ _ us hl => match us, hl with | [_, _, _], _ => rfl), ⟨e168, e169, e172⟩, ⟨e173, e168, e169, e174⟩, Zl e177 e178 e179, e179, ((Zl (st := YQ) e177 e178 e179).binds fun _ _ _ _ _ _ us hl => match us, hl with | [_], _ => rfl), ⟨e175, e176, e179⟩, Zl e182 e183 e184, e184, ((Zl (st := Xf) e182 e183 e184).binds fun _ _ _ _ _ _ us hl => match us, hl with | [_, _], _ => rfl), ⟨e180, e181, e184⟩, mg_of X G e185, Zl e186 e187 e188, e188, ((Zl (st := Ys) e186 e187 e188).binds fun _ _ _ _ _ _ us hl => match us, hl with | [_, _], _ => rfl), mg_of X G e189, Zl e190 e191 e192, e192, ((Zl (st := Yt) e190 e191 e192).binds fun _ _ _ _ _ _ us hl => match us, hl with | [_], _ => rfl), mg_of X G e193, Zl e194 e195 e196, e196, ((Zl (st := ZR) e194 e195 e196).binds fun _ _ _ _ _ _ us hl => match us, hl with | [_], _ => rfl), mg_of X G e197, Zl e198 e199 e200, e200, ((Zl (st := ZQ) e198 e199 e200).binds fun _ _ _ _ _ _ us hl => match us, hl with | [_, _, _], _ => rfl), mg_of X G e201, Zl e202 e203 e204, e204, ((Zl (st := Xn) e202 e203 e204).binds fun _ _ _ _ _ _ us hl => match us, hl with | [_, _], _ => rfl), mg_of X G e205, Zl e206 e207 e208, e208, ((Zl (st := YA) e206 e207 e208).binds fun _ _ _ _ _ _ us hl => match us, hl with | [_, _, _, _], _ => rfl), mg_of X G e209, Zl e210 e211 e212, e212, ((Zl (st := VR) e210 e211 e212).binds fun _ _ _ _ _ _ us hl => match us, hl with | [_, _], _ => rfl), mg_of X G e213, Zl e214 e215 e216, e216, ((Zl (st := Xb) e214 e215 e216).binds fun _ _ _ _ _ _ us hl => match us, hl with | [_, _], _ => rfl), mg_of X G e217, Zl e218 e219 e220, e220, ((Zl (st := Yr) e218 e219 e220).binds fun _ _ _ _ _ _ us hl => match us, hl with | [_, _], _ => rfl), mg_of X G e221, Zl e222 e223 e224, e224, ((Zl (st := YB) e222 e223 e224).binds fun _ _ _ _ _ _ us hl => match us, hl with | [_, _], _ => rfl), mg_of X G e225, Zl e226 e227 e228, e228, ((Zl (st := YJ) e226 e227 e228).binds fun _ _ _ _ _ _ us hl => match us, hl with | [_, _], _ => rfl), mg_of X G e229, Zl e230 e231 e232, e232, ((Zl (st := Yu) e230 e231 e232).binds fun _ _ _ _ _ _ us hl => match us, hl with | [_], _ => rfl), mg_of X G e233, Zl e234 e235 e236, e236, ((Zl (st := YI) e234 e235 e236).binds fun _ _ _ _ _ _ us hl => match us, hl with | [_, _], _ => rfl), mg_of X G e237, Zl e238 e239 e240, e240, ((Zl (st := Yj) e238 e239 e240).binds fun _ _ _ _ _ _ us hl => match us, hl with | [_, _], _ => rfl), mg_of X G e241, Zl e242 e243 e244, e244, ((Zl (st := Yv) e242 e243 e244).binds fun _ _ _ _ _ _ us hl => match us, hl with | [_, _, _], _ => rfl), mg_of X G e245, Zl e246 e247 e248, e248, ((Zl (st := YK) e246 e247 e248).binds fun _ _ _ _ _ _ us hl => match us, hl with | [_, _], _ => rfl), mg_of X G e249, Zl e250 e251 e252, e252, ((Zl (st := TH) e250 e251 e252).binds fun _ _ _ _ _ _ us hl => match us, hl with | [_], _ => rfl), Tf rfl e253, mg_none_of X G e254, mg_none_of X G e255, mg_none_of X G e256, mg_none_of X G e257, mg_none_of X G e258, mg_none_of X G e259, mg_none_of X G e260, mg_none_of X G e261, mg_none_of X G e262, mg_none_of X G e263, mg_none_of X G e264, mg_none_of X G e265, mg_none_of X G e266, mg_none_of X G e267, mg_of X G e268, mg_of X G e269, mg_of X G e270, mg_of X G e271⟩⟩
end Tk
end
section
namespace Tk
open PySem L2 Mir Rk Tb
open PyProof.Rows (boot_sorted boot_min boot_enumerate boot_isinstance boot_sum boot_max)
variable {P : Program} {w : World} {K : W.Frag} {mg : Str → Option Value} {base : Heap} {a : Ad}
abbrev clOf (a : Ad) : Cl := ⟨a.C_Row, a.C_Rack, a.C_Wheels, a.C_Book⟩
def spPos (K : W.Frag) : Sp := fun vs H Q _ => ∃ (l : Addr) (v : Int) (ns : List Int), vs = [.ref l, .int v] ∧ H l = some (.lst (ns.map V.int)) ∧ ns.Pairwise (· < ·) ∧ ns.length ≤ 1000 ∧ Q (.int (pos ns v)) H
theorem sc_position : FnScope ["rising", "value", "low", "high", "middle"] ["rising", "value"] (Ze YH) := Zr
theorem Ue (T : Txt K mg a) : FnOk P w K mg base (CXe P w) 1 a.f_position a.fd_position ["rising", "value"] (spPos K) := by
 refine T.F_position.okN sc_position (fun vs H Q E h => ?_) (fun cdv A outer s H vs Q E hr h => ?_)
 · obtain ⟨l, v, ns, rfl, _⟩ := h
   rfl
 · obtain ⟨l, v, ns, rfl, hl, hs, hz, k⟩ := h
   refine ⟨_, (Zg (Zs (i := 2) sc_position.nd rfl (Or.inl rfl) Zj)
     (Zg (Zs (i := 3) sc_position.nd rfl (Or.inl rfl) (Yd Yg rfl T.b_len boot_len (Za (pv 0) Zf)))
     (Zg (ps_while PassesOwn.never (Zy UV (pv 2) (pv 3) (ZG _)) (Zg (Zs (i := 4) sc_position.nd rfl (Or.inl rfl) (Zm ZO (Zm Ye (pv 2) (pv 3)) Zj))
     (Zi (YC (Zy UV (YT Yw (pv 0) (pv 4) (fun _ _ => rfl)) (pv 1) (ZG _)) (Zi (Zs (i := 2) sc_position.nd rfl (Or.inl rfl) (Zm Ye (pv 4) Zj))) (Zi (Zs (i := 3) sc_position.nd rfl (Or.inl rfl) (pv 4)))))))
     (Zi (ZA (pv 2)))))), ?_⟩
   refine ⟨_, rfl, l, _, rfl, .inl (SqL.of hl), ?_⟩
   refine ⟨fun m σ H1 => ∃ (lo hi : Nat) (x : Option V), σ = [some (.ref l), some (.int v), some (.int lo), some (.int hi), x] ∧ H1 = H ∧ lo ≤ pos ns v ∧ pos ns v ≤ hi ∧ hi ≤ ns.length ∧ m = hi - lo, ⟨_, 0, ns.length, none, ?_, rfl, Nat.zero_le _, pos_le _ _, Nat.le_refl _, rfl⟩, ?_⟩
   · rw [List.length_map]
     rfl
   · rintro m σ H1 ⟨lo, hi, x, rfl, rfl, h1, h2, h3, rfl⟩
     refine ⟨_, rfl, _, rfl, _, _, rfl, rfl, _, rfl, ?_⟩
     refine ite2 (fun c => ?_) (fun c => ?_)
     · have c' : lo < hi := by have := of_decide_eq_true c; omega
       have hm : ((lo : Int) + hi) / 2 = (((lo + hi) / 2 : Nat) : Int) := by omega
       obtain ⟨x0, hx⟩ : ∃ x0, ns[(lo + hi) / 2]? = some x0 := ⟨ns[(lo + hi) / 2]'(by omega), by simp⟩
       have hp := Xq (v := v) hs _ _ hx
       refine ⟨fun σ' H' => ∃ (lo' hi' : Nat) (x' : Option V), σ' = [some (.ref l), some (.int v), some (.int lo'), some (.int hi'), x'] ∧ H' = H1 ∧ lo' ≤ pos ns v ∧ pos ns v ≤ hi' ∧ hi' ≤ ns.length ∧ hi' - lo' < hi - lo, fun σ' H' ⟨lo', hi', x', e1, e2, e3, e4, e5, e6⟩ => ⟨_, e6, lo', hi', x', e1, e2, e3, e4, e5, rfl⟩, ?_⟩
       refine ⟨_, rfl, _, rfl, _, _, rfl, rfl, _, _, rfl, rfl, ⟨by decide, by decide⟩, ?_⟩
       refine ⟨_, rfl, _, rfl, l, ns.map V.int, _, .int x0, rfl, rfl, SqL.of hl, ?_, ?_⟩
       · show atI (ns.map V.int) (((lo : Int) + hi) / 2) = _
         rw [hm]
         exact atI_nat (by rw [List.getElem?_map, hx]; rfl)
       · refine ⟨_, rfl, _, _, rfl, rfl, _, rfl, ?_⟩
         refine ite2 (fun d => ?_) (fun d => ?_)
         · have d' : x0 < v := of_decide_eq_true d
           refine ⟨_, rfl, _, _, rfl, rfl, (lo + hi) / 2 + 1, hi, some (.int (((lo : Int) + hi) / 2)), ?_, rfl, by have := hp.mp d'; omega, h2, h3, by omega⟩
           show [some (V.ref l), some (V.int v), some (V.int (((lo : Int) + hi) / 2 + 1)), some (V.int hi), _] = _
           rw [hm]
           rfl
         · have d' : ¬ x0 < v := fun z => d (decide_eq_true z)
           refine ⟨_, rfl, lo, (lo + hi) / 2, some (.int (((lo : Int) + hi) / 2)), ?_, rfl, h1, by have := mt hp.mpr d'; omega, by omega, by omega⟩
           show [some (V.ref l), some (V.int v), some (V.int lo), some (V.int (((lo : Int) + hi) / 2)), some (V.int (((lo : Int) + hi) / 2))] = _
           rw [hm]
     · have c' : ¬ lo < hi := fun z => c (decide_eq_true (by omega))
       have e : lo = pos ns v := by omega
       refine ⟨_, rfl, ?_⟩
       rw [e]
       exact k
structure Sm (r : RowS) : Prop where
 sp : r.span < 2 ^ 200
 ri : r.rising.length ≤ 100
 fi : r.filled.length ≤ 100
 ns : ∀ s ns, get r.filled s = some ns → ns.length < 64
def TD (c : Cl) : Sp := fun vs H Q _ => ∃ (p dx : Addr) (sp : Int), vs = [.ref p, .int sp] ∧ H p = some (.ins c.Row dx []) ∧ ∀ (df lr : Addr) (H' : Hp), H df = none → H lr = none → df ≠ lr →
 H' p = some (.ins c.Row dx (rowF sp df lr)) → H' df = some (.dK []) → H' lr = some (.lst []) → (∀ b o, H b = some o → b ≠ p → H' b = some o) → Q .non H'
theorem sc_Row_init : FnScope ["self", "span"] ["self", "span"] (Ze Ya) := Zr
theorem ok_Row_init (T : Txt K mg a) : FnOk P w K mg base (CXe P w) 1 a.f_Row___init__ a.fd_Row___init__ ["self", "span"] (TD (clOf a)) := by
 refine T.F_Row___init__.okN sc_Row_init (fun vs H Q E h => ?_) (fun cdv A outer s H vs Q E hr h => ?_)
 · obtain ⟨p, dx, sp, rfl, _⟩ := h
   rfl
 · obtain ⟨p, dx, sp, rfl, hp, k⟩ := h
   refine ⟨_, (Zg (Yo (pv 0) (pv 1) rfl) (Zg (Yo (pv 0) YU rfl) (Zi (Yo (pv 0) (YX Zf) rfl)))), ?_⟩
   refine ⟨_, rfl, _, rfl, p, _, dx, [], rfl, hp, T.cl_Row, T.n_Row_span, (by show 0 < 1000; decide), ?_⟩
   intro df hdf
   have npf : p ≠ df := fun z => by rw [← z, Zb] at hdf; cases hdf
   have hdf0 : H df = none := by rw [Zc npf.symm] at hdf; exact hdf
   refine ⟨_, rfl, p, _, dx, _, rfl, (by rw [Zc npf]; exact Zb), T.cl_Row, T.n_Row_filled, (by show 1 < 1000; decide), ?_⟩
   refine ⟨(by show 0 ≤ sizeLine; decide), fun lr hlr => ?_⟩
   have npl : p ≠ lr := fun z => by rw [← z, Zb] at hlr; cases hlr
   have nfl : df ≠ lr := fun z => by rw [← z, Zc npf.symm, Zb] at hlr; cases hlr
   have hlr0 : H lr = none := by rw [Zc npl.symm, Zc nfl.symm, Zc npl.symm] at hlr; exact hlr
   refine ⟨_, rfl, p, _, dx, _, rfl, (by rw [Zc npl]; exact Zb), T.cl_Row, T.n_Row_rising, (by show 2 < 1000; decide), ?_⟩
   refine k df lr _ hdf0 hlr0 nfl Zb ?_ ?_ fun b o e hb => ?_
   · rw [Zc npf.symm, Zc nfl, Zc npf.symm, Zb]
   · rw [Zc npl.symm, Zb]
   · have n1 : b ≠ lr := Zk e hlr0
     have n2 : b ≠ df := Zk e hdf0
     rw [Zc hb, Zc n1, Zc hb, Zc n2, Zc hb]
     exact e
def spRowPut (c : Cl) : Sp := fun vs H Q _ => ∃ (A : Adr) (sl : Sl) (H0 : Hp) (B : BkS) (i : Nat) (r : RowS) (g : Int → Option Int) (n t : Int), vs = [.ref (A.ad (.row i)), .int n, .int t] ∧ Bk c A sl H0 H B ∧ B.rows[i]? = some r ∧ RowOK r g ∧ Sm r ∧
 ∀ H' sl', Bk c A sl' H0 H' (ZD B i (Vl r n (t / r.span))) → Q .non H'
theorem sc_Row_put : FnScope ["self", "number", "tick", "slot"] ["self", "number", "tick"] (Ze Xc) := Zr
theorem Xe {n : Nat} (h : n ≤ 100) : n < sizeLine := Nat.lt_of_le_of_lt h (by decide)
theorem map_ins (l : List Int) (i : Nat) (v : Int) : (l.map V.int).take i ++ V.int v :: (l.map V.int).drop i = (VE l i v).map V.int := by
 unfold VE
 rw [List.map_append, List.map_cons, List.map_take, List.map_drop]
theorem ok_Row_put (T : Txt K mg a) : FnOk P w K mg base (CXe P w) 2 a.f_Row_put a.fd_Row_put ["self", "number", "tick"] (spRowPut (clOf a)) := by
 have G_position := Ue (P := P) (w := w) (base := base) T
 refine T.F_Row_put.okN sc_Row_put (fun vs H Q E h => ?_) (fun cdv A' outer s H vs Q E hr h => ?_)
 · obtain ⟨A, sl, H0, B, i, r, g, n, t, rfl, _⟩ := h
   rfl
 · obtain ⟨A, sl, H0, B, i, r, g, n, t, rfl, b, hi, R, sm, k⟩ := h
   have hu := Vj hr
   refine ⟨_, (Zg (Zs (i := 3) sc_Row_put.nd rfl (Or.inl rfl) (Zm ZO (pv 2) (Zp (pv 0) rfl)))
     (Zg (YC (pt_cmp (pc_dnotin hu (pv 3) (Zp (pv 0) rfl))) (Zg (Xu hu (Zp (pv 0) rfl) (pv 3) YU rfl)
     (Zi (ZK (UU F.plainAttrs_list F.slot_list_insert F.type_list_insert mt_insert (Zp (pv 0) rfl) (Za (Zu G_position (hr.mono (by decide)) rfl T.f_position T.kp_position T.B_position .nil ZC (Za (Zp (pv 0) rfl) (Za (pv 3) Zf))) (Za (pv 3) Zf)))))) Yf)
     (Zi (Xu hu (Yy hu (Zp (pv 0) rfl) (pv 3) (fun _ _ => rfl)) (pv 1) pe_bl rfl)))), ?_⟩
   refine ⟨_, rfl, _, rfl, _, _, _, _, _, rfl, b.row hi, T.cl_Row, T.n_Row_span, rfl, _, _, rfl, rfl, ⟨R.sp, sm.sp⟩, ?_⟩
   refine ⟨_, rfl, _, rfl, _, _, _, _, _, rfl, b.row hi, T.cl_Row, T.n_Row_filled, rfl, _, _, rfl, DGet.k (k := Sum.inl (t / r.span)) (b.filled hi), _, rfl, ?_⟩
   rw [Ub]
   cases e : get r.filled (t / r.span) with
   | none =>
     refine iteT ?_
     intro d hd
     have bt := b.temp (o := .dK []) hd
     refine ⟨_, rfl, _, _, _, _, _, rfl, bt.row hi, T.cl_Row, T.n_Row_filled, rfl, _, rfl, _, _, rfl, DPut.k (k := Sum.inl (t / r.span)) (bt.filled hi) (by unfold ZP; rw [Xk]; exact Xe sm.fi), ?_⟩
     have b1 := b.newSlot hi e hd
     have hi1 : (ZD B i { r with filled := put r.filled (t / r.span) [] }).rows[i]? = some { r with filled := put r.filled (t / r.span) [] } := Xo hi
     have hR1 := b1.rising hi1
     dsimp only at hR1
     refine ⟨_, rfl, _, _, _, _, _, rfl, b1.row hi1, T.cl_Row, T.n_Row_rising, rfl, .inl ⟨rfl, _, SqL.of hR1⟩, ?_⟩
     refine ⟨_, rfl, _, _, _, _, _, rfl, b1.row hi1, T.cl_Row, T.n_Row_rising, rfl, _, rfl, _, _, r.rising, rfl, hR1, R.srt, (by have := sm.ri; omega), ?_⟩
     refine ⟨_, rfl, _, _, _, _, rfl, rfl, hR1, (by omega), (by rw [List.length_map]; have := pos_le r.rising (t / r.span); omega), (by rw [List.length_map]; exact Xe sm.ri), ?_⟩
     have b2 := b1.wRising hi1 (VE r.rising (pos r.rising (t / r.span)) (t / r.span))
     rw [Xm] at b2
     rw [show ((pos r.rising (t / r.span) : Nat) : Int).toNat = pos r.rising (t / r.span) from rfl, map_ins]
     have eS : ZJ r (t / r.span) = ⟨r.span, put r.filled (t / r.span) [], VE r.rising (pos r.rising (t / r.span)) (t / r.span)⟩ := by unfold ZJ; rw [e]; rfl
     have b2' := b2
     dsimp only at b2'
     rw [← eS] at b2'
     have hi2 : (ZD B i (ZJ r (t / r.span))).rows[i]? = some (ZJ r (t / r.span)) := Xo hi
     have hg : get (ZJ r (t / r.span)).filled (t / r.span) = some [] := by rw [Vk, if_pos rfl, e]; rfl
     have hlen : (ZJ r (t / r.span)).filled.length ≤ 101 := by
       rw [eS]
       show (put r.filled (t / r.span) []).length ≤ 101
       have : (keys (put r.filled (t / r.span) [])).length = (keys r.filled ++ [t / r.span]).length := by rw [VD _ e]
       have f1 := sm.fi
       simp [keys] at this
       omega
     refine ⟨_, rfl, _, _, _, _, _, rfl, b2'.row hi2, T.cl_Row, T.n_Row_filled, rfl, _, rfl, _, _, rfl, b2'.getF hi2 hg, _, rfl, _, _, rfl, b2'.putS (n := n) hi2 hg (by decide), ?_⟩
     have b3 := b2'.wSlot hi2 hg (putN [] n)
     rw [Xm] at b3
     refine k _ (YE sl i (t / r.span) d) ?_
     unfold Vl
     rw [hg]
     exact b3
   | some ns =>
     refine iteF ?_
     have eS : ZJ r (t / r.span) = r := by unfold ZJ; rw [e]; rfl
     refine ⟨_, rfl, _, _, _, _, _, rfl, b.row hi, T.cl_Row, T.n_Row_filled, rfl, _, rfl, _, _, rfl, b.getF hi e, _, rfl, _, _, rfl, b.putS (n := n) hi e (Xe (by have := sm.ns _ _ e; omega)), ?_⟩
     have b3 := b.wSlot hi e (putN ns n)
     refine k _ sl ?_
     unfold Vl
     rw [eS, e]
     exact b3
theorem TN {α β : Type} (f : α → β) : ∀ (l : List α) (i : Nat), (l.map f).eraseIdx i = (l.eraseIdx i).map f
 | [], _ => rfl
 | _ :: _, 0 => rfl
 | a :: r, i + 1 => by simp [TN f r i]
theorem seqIx {k n : Nat} (h : k < n) : seqIndex? (k : Int) n = some k := by
 unfold seqIndex?
 simp
 omega
def spTakeSlot (c : Cl) : Sp := fun vs H Q _ => ∃ (A : Adr) (sl : Sl) (H0 : Hp) (B : BkS) (i : Nat) (r : RowS) (s : Int) (ns : List Int), vs = [.ref (A.ad (.row i)), .int s] ∧ Bk c A sl H0 H B ∧ B.rows[i]? = some r ∧ r.rising.Pairwise (· < ·) ∧ s ∈ r.rising ∧ get r.filled s = some ns ∧ ns.Nodup ∧ Sm r ∧
 ∀ (H' : Hp) (l : Addr) (out : List Int), H0 l = none → Bk c A sl (upd H0 l (.lst (out.map V.int))) H' (ZD B i (Uq r s)) → out.Pairwise (· < ·) → (∀ x, x ∈ out ↔ x ∈ ns) → Q (.ref l) H'
theorem VQ : FnScope ["self", "slot"] ["self", "slot"] (Ze ZS) := Zr
theorem numV_pairs (ns : List Int) : numV ns = (ns.map fun n => (n, V.bl true)).map fun p => (Sum.inl p.1, p.2) := by
 unfold numV
 rw [List.map_map]
 rfl
theorem VW (T : Txt K mg a) : FnOk P w K mg base (CXe P w) 2 a.f_Row_take_slot a.fd_Row_take_slot ["self", "slot"] (spTakeSlot (clOf a)) := by
 have G_position := Ue (P := P) (w := w) (base := base) T
 refine T.F_Row_take_slot.okN VQ (fun vs H Q E h => ?_) (fun cdv A' outer s H vs Q E hr h => ?_)
 · obtain ⟨A, sl, H0, B, i, r, x, ns, rfl, _⟩ := h
   rfl
 · obtain ⟨A, sl, H0, B, i, r, x, ns, rfl, b, hi, hs, hx, hg, hn, sm, k⟩ := h
   have hu := Vj hr
   refine ⟨_, (Zg (ZK (UU F.plainAttrs_list F.slot_list_pop F.type_list_pop mt_popAt (Zp (pv 0) rfl) (Za (Zu G_position (hr.mono (by decide)) rfl T.f_position T.kp_position T.B_position .nil ZC (Za (Zp (pv 0) rfl) (Za (pv 1) Zf))) Zf)))
     (Zi (ZA (Yd (SG rfl) rfl T.b_sorted boot_sorted (Za (Vz (Zp (pv 0) rfl) (pv 1) ⟨rfl, rfl, rfl, rfl⟩) Zf))))), ?_⟩
   have hR := b.rising hi
   refine ⟨_, rfl, _, _, _, _, _, rfl, b.row hi, T.cl_Row, T.n_Row_rising, rfl, .inl ⟨rfl, _, SqL.of hR⟩, ?_⟩
   refine ⟨_, rfl, _, _, _, _, _, rfl, b.row hi, T.cl_Row, T.n_Row_rising, rfl, _, rfl, _, _, r.rising, rfl, hR, hs, (by have := sm.ri; omega), ?_⟩
   have hp := at_pos hs hx
   have hpl : pos r.rising x < r.rising.length := (List.getElem?_eq_some_iff.mp hp).1
   have hri := sm.ri
   refine ⟨_, _, _, pos r.rising x, .int x, rfl, rfl, hR, (by omega), (by omega), seqIx (by rw [List.length_map]; exact hpl), (by rw [List.getElem?_map, hp]; rfl), ?_⟩
   have b1 := b.wRising hi (r.rising.eraseIdx (pos r.rising x))
   have hi1 : (ZD B i { r with rising := r.rising.eraseIdx (pos r.rising x) }).rows[i]? = some { r with rising := r.rising.eraseIdx (pos r.rising x) } := Xo hi
   rw [← TN] at b1
   have b2 := b1.dropSlot hi1 x
   rw [Xm] at b2
   have hF1 := b1.filled hi1
   have hS1 := b1.slot hi1 hg
   have hne : sl i x ≠ A.ad (.filled i) := fun z => by
     have := b1.inj (.slot i x) (.filled i) _ _ (Vd hi1 hg) (Xl hi1) z
     cases this
   refine ⟨_, rfl, _, _, _, _, _, rfl, b1.row hi1, T.cl_Row, T.n_Row_filled, rfl, _, rfl, .inl ⟨_, .inl hF1⟩, _, rfl, _, Sum.inl x, .ref (sl i x), hF1, rfl, (by rw [Ub]; show (get r.filled x).map _ = _; rw [hg]; rfl), ?_⟩
   refine ⟨_, ns.map fun n => (n, V.bl true), rfl, (by rw [Zc hne, ← numV_pairs]; exact hS1), (by rw [List.length_map]; exact sm.ns _ _ hg), fun out hperm hsort l hl => ?_⟩
   have e2 : (ns.map fun n => (n, V.bl true)).map (·.1) = ns := by rw [List.map_map]; exact List.map_id _
   rw [e2] at hperm
   obtain ⟨h1, h2⟩ := srt_of_perm hperm hsort hn
   exact k _ l out (b2.same.free hl) (b2.out (.inl hl)) h1 h2
def Yb (S now due : Int) : Nat → List Int → Option (Int × Int)
 | _, [] => none
 | lvl, sp :: r => if now / (sp * S) = due / (sp * S) then some (lvl, due % (sp * S) / sp) else Yb S now due (lvl + 1) r
def Zt (S : Int) (n : Nat) : List Int := (List.range n).map fun i => S ^ i
def spPlace (c : Cl) : Sp := fun vs H Q _ => ∃ (wh tp dx : Addr) (S now due : Int) (sps : List Int), vs = [.ref wh, .int now, .int due] ∧ H wh = some (.ins c.Wheels dx (Yx S tp)) ∧ H tp = some (.tup (sps.map V.int)) ∧ 0 < S ∧ S < 2 ^ 64 ∧ (∀ x ∈ sps, 0 < x ∧ x < 2 ^ 100) ∧ sps.length ≤ 100 ∧
 (Yb S now due 0 sps = none → ∀ H', Same H H' → Q .non H') ∧ ∀ lvl slt, Yb S now due 0 sps = some (lvl, slt) → ∀ H' p, Same H H' → H p = none → H' p = some (.tup [.int lvl, .int slt]) → Q (.ref p) H'
theorem sc_Wheels_place : FnScope ["self", "now", "due", "level", "span", "whole"] ["self", "now", "due"] (Ze ZZ) := Zr
theorem UQ {S now due : Int} {sps : List Int} {i : Nat} {x : Int} (h : sps[i]? = some x) : Yb S now due i (sps.drop i) = if now / (x * S) = due / (x * S) then some ((i : Int), due % (x * S) / x) else Yb S now due (i + 1) (sps.drop (i + 1)) := by
 have hi : i < sps.length := (List.getElem?_eq_some_iff.mp h).1
 have e : sps.drop i = x :: sps.drop (i + 1) := by
   rw [List.drop_eq_getElem_cons hi]
   congr 1
   exact (List.getElem?_eq_some_iff.mp h).2
 rw [e]
 rfl
theorem Um (T : Txt K mg a) : FnOk P w K mg base (CXe P w) 1 a.f_Wheels_place a.fd_Wheels_place ["self", "now", "due"] (spPlace (clOf a)) := by
 refine T.F_Wheels_place.okN sc_Wheels_place (fun vs H Q E h => ?_) (fun cdv A' outer s H vs Q E hr h => ?_)
 · obtain ⟨wh, tp, dx, S, now, due, sps, rfl, _⟩ := h
   rfl
 · obtain ⟨wh, tp, dx, S, now, due, sps, rfl, hw, ht, hS, hS2, hx, hl, k0, k1⟩ := h
   have hu := Vj hr
   refine ⟨_, (Zg (XE PassesOwn.never rfl (pi_enumT rfl T.b_enumerate (Za (Zp (pv 0) rfl) Zf)) (Su rfl (YS (Ym (i := 3) sc_Wheels_place.nd rfl (Or.inl rfl)) (YS (Ym (i := 4) sc_Wheels_place.nd rfl (Or.inl rfl)) Ur)))
       (Zg (Zs (i := 5) sc_Wheels_place.nd rfl (Or.inl rfl) (Zm YY (pv 4) (Zp (pv 0) rfl)))
       (Zi (YC (Zy op_eq (Zm ZO (pv 1) (pv 5)) (Zm ZO (pv 2) (pv 5)) (ZG _)) (Zi (ZA (Vn (Za (pv 3) (Za (Zm ZO (Zm Yl (pv 2) (pv 5)) (pv 4)) Zf))))) Yf))))
     (Zi (ZA YM))), ?_⟩
   refine ⟨_, rfl, _, _, _, _, _, rfl, hw, T.cl_Wheels, T.n_Wheels_spans, rfl, _, rfl, ⟨_, SqT.of ht⟩, ?_⟩
   refine for_enumT (K := K) (a := tp) (xs := sps.map V.int) (fun i σ H2 => ∃ (x y z : Option V), σ = [some (.ref wh), some (.int now), some (.int due), x, y, z] ∧ Same H H2 ∧ Yb S now due 0 sps = Yb S now due i (sps.drop i)) ⟨_, _, _, rfl, Same.refl _, rfl⟩
     (fun i σ H2 _ ⟨_, _, _, _, s2, _⟩ => SqT.of (s2 _ _ ht)) ?_ ?_
   · rintro i v σ H2 p hv ⟨x, y, z, rfl, s2, hp⟩ hfree
     obtain ⟨sp, hsp, rfl⟩ : ∃ sp, sps[i]? = some sp ∧ v = V.int sp := by
       rw [List.getElem?_map] at hv
       cases e : sps[i]? with
       | none => rw [e] at hv; cases hv
       | some sp => rw [e] at hv; exact ⟨sp, rfl, (Option.some.inj hv).symm⟩
     obtain ⟨p1, p2⟩ := hx sp (List.mem_of_getElem? hsp)
     have s3 : Same H (upd H2 p (.tup [.int (i : Int), .int sp])) := s2.trans (Same.upd hfree)
     have m1 : 0 < sp * S := Int.mul_pos p1 hS
     have m2 : sp * S < 2 ^ 200 := by
       have : sp * S ≤ 2 ^ 100 * 2 ^ 64 := Int.mul_le_mul (Int.le_of_lt p2) (Int.le_of_lt hS2) (Int.le_of_lt hS) (by decide)
       have : (2 : Int) ^ 100 * 2 ^ 64 < 2 ^ 200 := by decide
       omega
     have p3 : sp < 2 ^ 200 := Int.lt_trans p2 (by decide)
     refine ⟨p, [.int (i : Int), .int sp], rfl, SqT.of Zb, rfl, _, _, rfl, _, _, rfl, rfl, ?_⟩
     refine ⟨_, rfl, _, rfl, _, _, _, _, _, rfl, s3 _ _ hw, T.cl_Wheels, T.n_Wheels_slots, rfl, _, _, rfl, rfl, .inr ⟨by omega, hS2⟩, ?_⟩
     refine ⟨_, rfl, _, rfl, _, _, rfl, rfl, ⟨m1, m2⟩, _, rfl, _, rfl, _, _, rfl, rfl, ⟨m1, m2⟩, rfl, _, rfl, ?_⟩
     have key := UQ (S := S) (now := now) (due := due) hsp
     rw [← hp] at key
     refine ite2 (fun c => ?_) (fun c => ?_)
     · have c' : now / (sp * S) = due / (sp * S) := by have := of_decide_eq_true c; injection this
       rw [if_pos c'] at key
       refine ⟨_, rfl, _, rfl, _, rfl, _, _, rfl, rfl, m1, _, rfl, _, _, rfl, rfl, ⟨p1, p3⟩, (by show 2 ≤ sizeLine; decide), fun q hq => ?_⟩
       exact k1 _ _ key _ q (s3.trans (Same.upd hq)) (s3.free hq) Zb
     · have c' : ¬ now / (sp * S) = due / (sp * S) := fun z => c (decide_eq_true (congrArg V.int z))
       rw [if_neg c'] at key
       exact ⟨_, _, _, rfl, s3, key⟩
   · rintro σ H2 ⟨x, y, z, rfl, s2, hp⟩
     refine k0 ?_ H2 s2
     rw [hp, List.length_map, List.drop_length]
     rfl
end Tk
end
section
namespace Tb
open PySem L2 Mir Rk
theorem Bk.up {c : Cl} {A : Adr} {sl : Sl} {H0 H H' : Hp} {B : BkS} (b : Bk c A sl H0 H B) (s : Same H H') : Bk c A sl H0 H' B := ⟨b.same.trans s, b.free, fun l o h => s _ _ (b.here l o h), b.inj⟩
end Tb
namespace Tk
open PySem L2 Mir Rk Tb
open PyProof.Rows (boot_sorted boot_min boot_enumerate boot_isinstance)
structure Geo (S : Int) (n : Nat) (B : BkS) : Prop where
 lo : 2 ≤ S
 hi : S ≤ 64
 n1 : 1 ≤ n
 n6 : n ≤ 6
 slots : B.slots = S
 spans : B.spans = Zt S n
 len : B.rows.length = n + 1
theorem UI (S now due : Int) : ∀ (n i : Nat), Yb S now due i ((List.range n).map fun j => S ^ (i + j)) =
   if levFrom S now due n i < i + n then some ((levFrom S now due n i : Int), due % S ^ (levFrom S now due n i + 1) / S ^ levFrom S now due n i) else none
 | 0, i => by simp [Yb, levFrom]
 | n + 1, i => by
   have e : (List.range (n + 1)).map (fun j => S ^ (i + j)) = S ^ i :: (List.range n).map fun j => S ^ (i + 1 + j) := by
     rw [List.range_succ_eq_map, List.map_cons, List.map_map]
     congr 1
     apply List.map_congr_left
     intro j _
     show S ^ (i + (j + 1)) = _
     congr 1
     omega
   have p : S ^ i * S = S ^ (i + 1) := (Int.pow_succ S i).symm
   rw [e, Yb, p, UI S now due n (i + 1), levFrom]
   by_cases h : now / S ^ (i + 1) = due / S ^ (i + 1)
   · rw [if_pos h, if_pos h, if_pos (by omega)]
   · rw [if_neg h, if_neg h, show i + 1 + n = i + (n + 1) by omega]
theorem place_spans (S now due : Int) (n : Nat) : Yb S now due 0 (Zt S n) = if lv S n now due < n then some ((lv S n now due : Int), due % S ^ (lv S n now due + 1) / S ^ lv S n now due) else none := by
 have := UI S now due n 0
 rw [Nat.zero_add] at this
 rw [show Zt S n = (List.range n).map fun j => S ^ (0 + j) from by unfold Zt; congr 1; funext j; rw [Nat.zero_add]]
 exact this
theorem pow_le64 {S : Int} (h1 : 0 ≤ S) (h2 : S ≤ 64) : ∀ i : Nat, 0 ≤ S ^ i ∧ S ^ i ≤ 64 ^ i
 | 0 => by simp
 | i + 1 => by
   obtain ⟨a, b⟩ := pow_le64 h1 h2 i
   rw [Int.pow_succ, Int.pow_succ]
   exact ⟨Int.mul_nonneg a h1, Int.mul_le_mul b h2 h1 (Int.le_trans a b)⟩
theorem pow_64 {i : Nat} (h : i ≤ 7) : (64 : Int) ^ i ≤ 64 ^ 7 := (by decide : ∀ i : Fin 8, (64 : Int) ^ (i : Nat) ≤ 64 ^ 7) ⟨i, by omega⟩
theorem Xd {S : Int} (h1 : 2 ≤ S) (h2 : S ≤ 64) {i : Nat} (hi : i ≤ 7) : 0 < S ^ i ∧ S ^ i ≤ 64 ^ 7 := by
 refine ⟨Int.pow_pos (by omega), ?_⟩
 exact Int.le_trans (pow_le64 (by omega) h2 i).2 (pow_64 hi)
section
variable {S : Int} {n : Nat} {now : Int} {rows : List RowS} {f : Int → Option Int} {B : BkS}
theorem Geo.pow (G : Geo S n B) {i : Nat} (hi : i ≤ 7) : 0 < S ^ i ∧ S ^ i ≤ 64 ^ 7 := Xd G.lo G.hi hi
theorem Geo.span (G : Geo S n B) {x : Int} (h : x ∈ B.spans) : 0 < x ∧ x < 2 ^ 100 := by
 rw [G.spans] at h
 obtain ⟨i, hi, rfl⟩ := List.mem_map.mp h
 have hn := G.n6
 have := List.mem_range.mp hi
 obtain ⟨a, b⟩ := G.pow (i := i) (by omega)
 exact ⟨a, Int.lt_of_le_of_lt b (by decide)⟩
theorem RackOK.sm (R : RackOK S n now rows f) (h64 : S ≤ 64) (h6 : n ≤ 6) {i : Nat} {r : RowS} (h : rows[i]? = some r) : Sm r := by
 have hl := (List.getElem?_eq_some_iff.mp h).1
 have := R.len
 obtain ⟨a, b⟩ := Xd R.hS h64 (i := i) (by omega)
 obtain ⟨c1, c2, c3⟩ := row_small (R.row i r h) (N := 63) fun k t e => R.dom k t (fil_some.mp e).1
 refine ⟨?_, by omega, by omega, fun s ns e => by have := c3 s ns e; omega⟩
 rw [R.span i r h]
 exact Int.lt_of_le_of_lt b (by decide)
end
section
variable {P : Program} {w : World} {K : W.Frag} {mg : Str → Option Value} {base : Heap} {a : Ad}
def spRowOf (c : Cl) : Sp := fun vs H Q _ => ∃ (A : Adr) (sl : Sl) (H0 : Hp) (B : BkS) (S : Int) (n : Nat) (now t : Int), vs = [.ref (A.ad .rack), .int now, .int t] ∧ Bk c A sl H0 H B ∧ Geo S n B ∧ ∀ H', Same H H' → Q (.ref (A.ad (.row (lv S n now t)))) H'
theorem sc_Rack_row_of : FnScope ["self", "now", "tick", "place"] ["self", "now", "tick"] (Ze Yk) := Zr
theorem rows_at {c : Cl} {A : Adr} {sl : Sl} {H0 H : Hp} {B : BkS} (b : Bk c A sl H0 H B) {i : Nat} (h : i < B.rows.length) : atI ((List.range B.rows.length).map fun i => V.ref (A.ad (.row i))) (i : Int) = some (V.ref (A.ad (.row i))) := by
 refine atI_nat ?_
 rw [List.getElem?_map, List.getElem?_range h]
 rfl
theorem UZ (T : Txt K mg a) : FnOk P w K mg base (CXe P w) 2 a.f_Rack_row_of a.fd_Rack_row_of ["self", "now", "tick"] (spRowOf (clOf a)) := by
 have G_Wheels_place := Um (P := P) (w := w) (base := base) T
 refine T.F_Rack_row_of.okN sc_Rack_row_of (fun vs H Q E h => ?_) (fun cdv A' outer s H vs Q E hr h => ?_)
 · obtain ⟨A, sl, H0, B, S, n, now, t, rfl, _⟩ := h
   rfl
 · obtain ⟨A, sl, H0, B, S, n, now, t, rfl, b, G, k⟩ := h
   refine ⟨_, (Zg (Zs (i := 3) sc_Rack_row_of.nd rfl (Or.inl rfl) (Vv (Zp (pv 0) rfl) T.cl_Wheels T.m_Wheels_place G_Wheels_place (hr.mono (by decide)) T.B_Wheels_place .nil ZC (Za (pv 1) (Za (pv 2) Zf))))
     (Zg (YC (Zy Sw (pv 3) YM (ZG _)) (Zi (ZA (YT Yw (Zp (pv 0) rfl) (Zm VT (Yd Yg rfl T.b_len boot_len (Za (Zp (pv 0) rfl) Zf)) Zj) (fun _ _ => rfl)))) Yf)
     (Zi (ZA (YT Yw (Zp (pv 0) rfl) (YT SE (pv 3) Zj (fun _ _ => rfl)) (fun _ _ => rfl)))))), ?_⟩
   refine ⟨_, rfl, _, _, _, _, _, rfl, b.rack, T.cl_Rack, T.n_Rack_wheels, rfl, _, _, _, rfl, b.wheels, rfl, _, rfl, _, rfl, ?_⟩
   have hpl := place_spans S now t n
   have hln := G.len
   refine ⟨_, _, _, S, now, t, B.spans, rfl, (by rw [← G.slots]; exact b.wheels), b.spans, (by have := G.lo; omega), (by have := G.hi; omega), fun x hx => G.span hx, (by rw [G.spans]; unfold Zt; rw [List.length_map, List.length_range]; have := G.n6; omega), fun h H1 s1 => ?_, fun lvl slt h H1 p s1 hp0 hp => ?_⟩
   · rw [G.spans, hpl] at h
     have hlt : ¬ lv S n now t < n := fun z => by rw [if_pos z] at h; cases h
     have heq : lv S n now t = n := by have := Td S n now t; omega
     have b1 := b.up s1
     refine ⟨_, rfl, rfl, _, rfl, iteT ?_⟩
     refine ⟨_, rfl, _, _, _, _, _, rfl, b1.rack, T.cl_Rack, T.n_Rack_rows, rfl, _, rfl, _, _, _, _, _, rfl, b1.rack, T.cl_Rack, T.n_Rack_rows, rfl, _, _, rfl, .inl (SqL.of b1.rows), _, _, rfl, rfl, _, _, _, _, rfl, rfl, SqL.of b1.rows, ?_, k H1 s1⟩
     rw [List.length_map, List.length_range, show ((B.rows.length : Int) - 1) = ((lv S n now t : Nat) : Int) by omega]
     exact rows_at b1 (by omega)
   · rw [G.spans, hpl] at h
     have hlt : lv S n now t < n := Nat.lt_of_not_le fun z => by rw [if_neg (by omega)] at h; cases h
     rw [if_pos hlt] at h
     have b1 := b.up s1
     refine ⟨_, rfl, rfl, _, rfl, iteF ?_⟩
     refine ⟨_, rfl, _, _, _, _, _, rfl, b1.rack, T.cl_Rack, T.n_Rack_rows, rfl, _, rfl, _, _, _, .int lvl, rfl, rfl, SqT.of hp, rfl, _, _, _, _, rfl, rfl, SqL.of b1.rows, ?_, k H1 s1⟩
     injection h with h
     injection h with h1 h2
     rw [← h1]
     exact rows_at b1 (by omega)
def spRackPut (c : Cl) : Sp := fun vs H Q _ => ∃ (A : Adr) (sl : Sl) (H0 : Hp) (B : BkS) (S : Int) (n : Nat) (now k t : Int) (f : Int → Option Int), vs = [.ref (A.ad .rack), .int now, .int k, .int t] ∧ Bk c A sl H0 H B ∧ Geo S n B ∧ RackOK S n now B.rows f ∧ f k = none ∧ now < t ∧ 0 ≤ k ∧ k < 63 ∧
 ∀ (H' : Hp) (sl' : Sl) (rows' : List RowS), Bk c A sl' H0 H' { B with rows := rows' } → rows'.length = B.rows.length → RackOK S n now rows' (gput f k (some t)) → Q .non H'
theorem sc_Rack_put : FnScope ["self", "now", "number", "tick"] ["self", "now", "number", "tick"] (Ze YL) := Zr
theorem ok_Rack_put (T : Txt K mg a) : FnOk P w K mg base (CXe P w) 3 a.f_Rack_put a.fd_Rack_put ["self", "now", "number", "tick"] (spRackPut (clOf a)) := by
 have G_Rack_row_of := UZ (P := P) (w := w) (base := base) T
 have G_Row_put := ok_Row_put (P := P) (w := w) (base := base) T
 refine T.F_Rack_put.okN sc_Rack_put (fun vs H Q E h => ?_) (fun cdv A' outer s H vs Q E hr h => ?_)
 · obtain ⟨A, sl, H0, B, S, n, now, k, t, f, rfl, _⟩ := h
   rfl
 · obtain ⟨A, sl, H0, B, S, n, now, k, t, f, rfl, b, G, R, hk, ht, hd1, hd2, kk⟩ := h
   refine ⟨_, (Zi (ZK (Vv (Vv (pv 0) T.cl_Rack T.m_Rack_row_of G_Rack_row_of (hr.mono (by decide)) T.B_Rack_row_of .nil ZC (Za (pv 1) (Za (pv 3) Zf))) T.cl_Row T.m_Row_put G_Row_put (hr.mono (by decide)) T.B_Row_put .nil ZC (Za (pv 2) (Za (pv 3) Zf))))), ?_⟩
   refine ⟨_, rfl, _, _, _, rfl, b.rack, rfl, _, rfl, _, rfl, A, sl, H0, B, S, n, now, t, rfl, b, G, fun H1 s1 => ?_⟩
   have b1 := b.up s1
   obtain ⟨r, hi⟩ := R.at (Td S n now t)
   refine ⟨_, _, _, rfl, b1.row hi, rfl, _, rfl, _, rfl, A, sl, H0, B, _, r, _, k, t, rfl, b1, hi, R.row _ _ hi, RackOK.sm R G.hi G.n6 hi, fun H2 sl2 b2 => ?_⟩
   exact kk H2 sl2 _ b2 (List.length_set ..) (R.put hk ht ⟨hd1, hd2⟩ hi)
end
end Tk
end
section
namespace Tk
open PySem L2 Mir Rk Tb
open PyProof.Rows (boot_sorted boot_min boot_enumerate boot_isinstance boot_sum boot_max)
variable {P : Program} {w : World} {K : W.Frag} {mg : Str → Option Value} {base : Heap} {a : Ad}
structure IsMin (S : Int) (n : Nat) (now : Int) (f : Int → Option Int) (m : Int) : Prop where
 one : ∃ k t, f k = some t ∧ st S n now t = m
 least : ∀ k t, f k = some t → m ≤ st S n now t
theorem IsMin.uniq {S : Int} {n : Nat} {now : Int} {f : Int → Option Int} {m m' : Int} (h : IsMin S n now f m) (h' : IsMin S n now f m') : m = m' := by
 obtain ⟨k, t, e, z⟩ := h.one
 obtain ⟨k', t', e', z'⟩ := h'.one
 have := h.least k' t' e'
 have := h'.least k t e
 omega
theorem First.isMin {S : Int} {n : Nat} {now : Int} {f : Int → Option Int} {L : Nat} {s : Int} (h : First S n now f L s) : IsMin S n now f (s * S ^ L) := by
 obtain ⟨k, t, e, l, d⟩ := h.one
 exact ⟨⟨k, t, e, by unfold st; rw [l, d]⟩, h.least⟩
def spFirstRow (c : Cl) : Sp := fun vs H Q _ => ∃ (A : Adr) (sl : Sl) (H0 : Hp) (B : BkS), vs = [.ref (A.ad .rack)] ∧ Bk c A sl H0 H B ∧ ((∀ (i : Nat) r, B.rows[i]? = some r → r.rising = []) → Q .non H) ∧
 ∀ (L : Nat) r x, B.rows[L]? = some r → r.rising[0]? = some x → (∀ (i : Nat) r', i < L → B.rows[i]? = some r' → r'.rising = []) → Q (.ref (A.ad (.row L))) H
theorem sc_Rack_first_row : FnScope ["self", "row"] ["self"] (Ze ZN) := Zr
theorem Xj (T : Txt K mg a) : FnOk P w K mg base (CXe P w) 1 a.f_Rack_first_row a.fd_Rack_first_row ["self"] (spFirstRow (clOf a)) := by
 refine T.F_Rack_first_row.okN sc_Rack_first_row (fun vs H Q E h => ?_) (fun cdv A' outer s H vs Q E hr h => ?_)
 · obtain ⟨A, sl, H0, B, rfl, _⟩ := h
   rfl
 · obtain ⟨A, sl, H0, B, rfl, b, k0, k1⟩ := h
   refine ⟨_, (Zg (XE PassesOwn.never rfl (Va (Zp (pv 0) rfl)) (Ym (i := 1) sc_Rack_first_row.nd rfl (Or.inl rfl)) (Zi (YC (Zy op_gt (Yd Yg rfl T.b_len boot_len (Za (Zp (pv 1) rfl) Zf)) Zj (ZG _)) (Zi (ZA (pv 1))) Yf)))
     (Zi (ZA YM))), ?_⟩
   refine ⟨_, rfl, _, _, _, _, _, rfl, b.rack, T.cl_Rack, T.n_Rack_rows, rfl, _, rfl, ⟨_, SqL.of b.rows⟩, ?_⟩
   refine Tj (K := K) (a := A.ad .rows) (xs := (List.range B.rows.length).map fun i => V.ref (A.ad (.row i))) (fun i σ H2 => ∃ x, σ = [some (.ref (A.ad .rack)), x] ∧ H2 = H ∧ ∀ (j : Nat) r, j < i → B.rows[j]? = some r → r.rising = [])
     ⟨_, rfl, rfl, fun j r z => by omega⟩ (fun i σ H2 _ ⟨_, _, e, _⟩ => by rw [e]; exact SqL.of b.rows) ?_ ?_
   · rintro i v σ H2 hv ⟨x, rfl, rfl, hlow⟩
     have hil : i < B.rows.length := by have := (List.getElem?_eq_some_iff.mp hv).1; simpa using this
     have ev : v = V.ref (A.ad (.row i)) := by
       rw [List.getElem?_map, List.getElem?_range hil] at hv
       exact (Option.some.inj hv).symm
     subst ev
     obtain ⟨r, hi⟩ : ∃ r, B.rows[i]? = some r := ⟨B.rows[i], by simp [hil]⟩
     refine ⟨_, rfl, _, _, _, _, _, rfl, b.row hi, T.cl_Row, T.n_Row_rising, rfl, _, _, rfl, .inl (SqL.of (b.rising hi)), _, _, rfl, rfl, _, rfl, ?_⟩
     rw [List.length_map]
     refine ite2 (fun c => ?_) (fun c => ?_)
     · have c' : 0 < r.rising.length := by have := of_decide_eq_true c; omega
       exact ⟨_, rfl, k1 i r r.rising[0] hi (by simp [c']) fun j r' hj e => hlow j r' hj e⟩
     · have c0 : ¬ (0 : Int) < (r.rising.length : Int) := fun z => c (decide_eq_true z)
       have c' : r.rising = [] := List.length_eq_zero_iff.mp (by omega)
       refine ⟨_, rfl, rfl, fun j r' hj e => ?_⟩
       by_cases ej : j = i
       · subst ej
         rw [hi] at e
         cases e
         exact c'
       · exact hlow j r' (by omega) e
   · rintro σ H2 ⟨x, rfl, rfl, hlow⟩
     refine k0 fun i r e => hlow i r ?_ e
     rw [List.length_map, List.length_range]
     exact (List.getElem?_eq_some_iff.mp e).1
def Si (c : Cl) : Sp := fun vs H Q _ => ∃ (A : Adr) (sl : Sl) (H0 : Hp) (B : BkS) (S : Int) (n : Nat) (now : Int) (f : Int → Option Int), vs = [.ref (A.ad .rack)] ∧ Bk c A sl H0 H B ∧ Geo S n B ∧ RackOK S n now B.rows f ∧ ((∀ k, f k = none) → Q .non H) ∧ ∀ m, IsMin S n now f m → Q (.int m) H
theorem sc_Rack_first_start : FnScope ["self", "row"] ["self"] (Ze ZE) := Zr
theorem Vg (T : Txt K mg a) : FnOk P w K mg base (CXe P w) 2 a.f_Rack_first_start a.fd_Rack_first_start ["self"] (Si (clOf a)) := by
 have G_Rack_first_row := Xj (P := P) (w := w) (base := base) T
 refine T.F_Rack_first_start.okN sc_Rack_first_start (fun vs H Q E h => ?_) (fun cdv A' outer s H vs Q E hr h => ?_)
 · obtain ⟨A, sl, H0, B, S, n, now, f, rfl, _⟩ := h
   rfl
 · obtain ⟨A, sl, H0, B, S, n, now, f, rfl, b, G, R, k0, k1⟩ := h
   refine ⟨_, (Zg (Zs (i := 1) sc_Rack_first_start.nd rfl (Or.inl rfl) (XF (pv 0) T.cl_Rack T.m_Rack_first_row G_Rack_first_row (hr.mono (by decide)) T.B_Rack_first_row .nil ZC))
     (Zg (YC (Zy Sw (pv 1) YM (ZG _)) (Zi (ZA YM)) Yf)
     (Zi (ZA (Zm YY (YT Yw (Zp (pv 1) rfl) Zj (fun _ _ => rfl)) (Zp (pv 1) rfl)))))), ?_⟩
   refine ⟨_, rfl, _, _, _, rfl, b.rack, rfl, A, sl, H0, B, rfl, b, fun h => ?_, fun L r x hi hx low => ?_⟩
   · refine ⟨_, rfl, rfl, _, rfl, iteT ?_⟩
     exact k0 (R.none_first h)
   · have hln := (List.getElem?_eq_some_iff.mp hi).1
     have hsp := R.span L r hi
     obtain ⟨p1, p2⟩ := G.pow (i := L) (by have := R.len; have := G.n6; omega)
     refine ⟨_, rfl, rfl, _, rfl, iteF ?_⟩
     refine ⟨_, rfl, _, _, _, _, _, rfl, b.row hi, T.cl_Row, T.n_Row_rising, rfl, _, _, _, .int x, rfl, rfl, SqL.of (b.rising hi), (by rw [show (0 : Int) = ((0 : Nat) : Int) from rfl]; exact atI_nat (by rw [List.getElem?_map, hx]; rfl)), ?_⟩
     refine ⟨_, rfl, _, _, _, _, _, rfl, b.row hi, T.cl_Row, T.n_Row_span, rfl, _, _, rfl, rfl, .inr ⟨by rw [hsp]; omega, by rw [hsp]; exact Int.lt_of_le_of_lt p2 (by decide)⟩, ?_⟩
     rw [hsp]
     exact k1 _ (First.isMin (R.first hi hx low))
theorem first_has {S : Int} {n : Nat} {now : Int} {rows : List RowS} {f : Int → Option Int} (R : RackOK S n now rows f) {L : Nat} {r : RowS} {s : Int} (hi : rows[L]? = some r) (F : First S n now f L s) (x : Int) :
   (∃ ns, get r.filled s = some ns ∧ x ∈ ns) ↔ ∃ t, f x = some t ∧ st S n now t = s * S ^ L := by
 rw [(R.row L r hi).has x s, R.span L r hi]
 constructor
 · rintro ⟨t, h1, h2⟩
   obtain ⟨a, b⟩ := fil_some.mp h1
   exact ⟨t, a, (F.just x t a).mpr ⟨b, h2⟩⟩
 · rintro ⟨t, h1, h2⟩
   obtain ⟨a, b⟩ := (F.just x t h1).mp h2
   exact ⟨t, fil_some.mpr ⟨h1, a⟩, b⟩
def spTakeFirst (c : Cl) : Sp := fun vs H Q _ => ∃ (A : Adr) (sl : Sl) (H0 : Hp) (B : BkS) (S : Int) (n : Nat) (now : Int) (f : Int → Option Int) (m : Int), vs = [.ref (A.ad .rack)] ∧ Bk c A sl H0 H B ∧ Geo S n B ∧ RackOK S n now B.rows f ∧ IsMin S n now f m ∧
 ∀ (H' : Hp) (l : Addr) (out : List Int) (rows' : List RowS), H0 l = none → Bk c A sl (upd H0 l (.lst (out.map V.int))) H' { B with rows := rows' } → rows'.length = B.rows.length → RackOK S n now rows' (fun k => (f k).filter fun t => !decide (st S n now t = m)) →
   out.Pairwise (· < ·) → (∀ x, x ∈ out ↔ ∃ t, f x = some t ∧ st S n now t = m) → Q (.ref l) H'
theorem sc_Rack_take_first : FnScope ["self", "row"] ["self"] (Ze ZI) := Zr
theorem Vo (T : Txt K mg a) : FnOk P w K mg base (CXe P w) 3 a.f_Rack_take_first a.fd_Rack_take_first ["self"] (spTakeFirst (clOf a)) := by
 have G_Rack_first_row := Xj (P := P) (w := w) (base := base) T
 have G_Row_take_slot := VW (P := P) (w := w) (base := base) T
 refine T.F_Rack_take_first.okN sc_Rack_take_first (fun vs H Q E h => ?_) (fun cdv A' outer s H vs Q E hr h => ?_)
 · obtain ⟨A, sl, H0, B, S, n, now, f, m, rfl, _⟩ := h
   rfl
 · obtain ⟨A, sl, H0, B, S, n, now, f, m, rfl, b, G, R, M, k⟩ := h
   refine ⟨_, (Zg (Zs (i := 1) sc_Rack_take_first.nd rfl (Or.inl rfl) (XF (pv 0) T.cl_Rack T.m_Rack_first_row G_Rack_first_row (hr.mono (by decide)) T.B_Rack_first_row .nil ZC))
     (Zi (ZA (Vv (pv 1) T.cl_Row T.m_Row_take_slot G_Row_take_slot (hr.mono (by decide)) T.B_Row_take_slot .nil ZC (Za (YT Yw (Zp (pv 1) rfl) Zj (fun _ _ => rfl)) Zf))))), ?_⟩
   refine ⟨_, rfl, _, _, _, rfl, b.rack, rfl, A, sl, H0, B, rfl, b, fun h => ?_, fun L r x hi hx low => ?_⟩
   · have no := R.none_first h
     obtain ⟨k', t', e, _⟩ := M.one
     rw [no k'] at e
     cases e
   · have F := R.first hi hx low
     have em : m = x * S ^ L := M.uniq (First.isMin F)
     have RR := R.row L r hi
     have hxm : x ∈ r.rising := List.mem_of_getElem? hx
     obtain ⟨ns, hns⟩ := Option.isSome_iff_exists.mp ((RR.mem x).mp hxm)
     refine ⟨_, rfl, _, _, _, rfl, b.row hi, rfl, _, rfl, _, _, _, _, _, rfl, b.row hi, T.cl_Row, T.n_Row_rising, rfl, _, _, _, .int x, rfl, rfl, SqL.of (b.rising hi), (by rw [show (0 : Int) = ((0 : Nat) : Int) from rfl]; exact atI_nat (by rw [List.getElem?_map, hx]; rfl)), ?_⟩
     refine ⟨A, sl, H0, B, L, r, x, ns, rfl, b, hi, RR.srt, hxm, hns, RR.nd _ _ hns, RackOK.sm R G.hi G.n6 hi, fun H1 l out hl b1 hs hm => ?_⟩
     refine k H1 l out _ hl b1 (List.length_set ..) ((R.out hi hxm).congr fun y => ?_) hs fun y => ?_
     · cases e : f y with
       | none => rfl
       | some t =>
         have := F.just y t e
         rw [← em] at this
         simp only [Option.filter, this]
     · rw [hm y, em]
       refine Iff.trans ⟨fun z => ⟨ns, hns, z⟩, fun ⟨ms, z1, z2⟩ => ?_⟩ (first_has R hi F y)
       rw [hns] at z1
       cases z1
       exact z2
end Tk
end
section
namespace Tb
open PySem L2 Mir Rk
section
variable {c : Cl} {A : Adr} {sl : Sl} {H0 H : Hp} {B : BkS}
theorem Bk.putT (b : Bk c A sl H0 H B) (k t : Int) (h : B.ticks.length ≤ 1000) : DPut H (A.ad .ticks) (.int k) (.int t) (upd H (A.ad .ticks) (.dK (mapK (fun _ x => V.int x) (put B.ticks k t)))) := by
 have := DPut.k (k := Sum.inl k) (v := .int t) b.ticks (by rw [Xk]; exact VN h)
 rw [XY (fun _ x => V.int x) B.ticks k t] at this
 exact this
theorem Bk.putN (b : Bk c A sl H0 H B) (k : Int) (x : Str) (h : B.names.length ≤ 1000) : DPut H (A.ad .names) (.int k) (.str x) (upd H (A.ad .names) (.dK (mapK (fun _ x => V.str x) (put B.names k x)))) := by
 have := DPut.k (k := Sum.inl k) (v := .str x) b.names (by rw [Xk]; exact VN h)
 rw [XY (fun _ x => V.str x) B.names k x] at this
 exact this
theorem Bk.putSt (b : Bk c A sl H0 H B) (k : Int) (x : Option Int) (h : B.steps.length ≤ 1000) : DPut H (A.ad .steps) (.int k) (Yi x) (upd H (A.ad .steps) (.dK (mapK (fun _ x => Yi x) (put B.steps k x)))) := by
 have := DPut.k (k := Sum.inl k) (v := Yi x) b.steps (by rw [Xk]; exact VN h)
 rw [XY (fun _ x => Yi x) B.steps k x] at this
 exact this
theorem Bk.getT (b : Bk c A sl H0 H B) (k : Int) : DGet H (A.ad .ticks) (.int k) ((get B.ticks k).map V.int) := by
 have := DGet.k (k := Sum.inl k) b.ticks
 rw [YF] at this
 exact this
theorem Bk.getN (b : Bk c A sl H0 H B) (k : Int) : DGet H (A.ad .names) (.int k) ((get B.names k).map V.str) := by
 have := DGet.k (k := Sum.inl k) b.names
 rw [YF] at this
 exact this
theorem Bk.getSt (b : Bk c A sl H0 H B) (k : Int) : DGet H (A.ad .steps) (.int k) ((get B.steps k).map Yi) := by
 have := DGet.k (k := Sum.inl k) b.steps
 rw [YF] at this
 exact this
theorem Bk.popT (b : Bk c A sl H0 H B) (k : Int) : Bk c A sl H0 (upd H (A.ad .ticks) (.dK (XB (mapK (fun _ x => V.int x) B.ticks) (Sum.inl k)))) { B with ticks := drop B.ticks k } := by rw [Xz]; exact b.wTicks _
theorem Bk.popN (b : Bk c A sl H0 H B) (k : Int) : Bk c A sl H0 (upd H (A.ad .names) (.dK (XB (mapK (fun _ x => V.str x) B.names) (Sum.inl k)))) { B with names := drop B.names k } := by rw [Xz]; exact b.wNames _
theorem Bk.popS (b : Bk c A sl H0 H B) (k : Int) : Bk c A sl H0 (upd H (A.ad .steps) (.dK (XB (mapK (fun _ x => Yi x) B.steps) (Sum.inl k)))) { B with steps := drop B.steps k } := by rw [Xz]; exact b.wSteps _
end
end Tb
namespace Tk
open PySem L2 Mir Rk Tb
open PyProof.Rows (boot_sorted boot_min boot_enumerate boot_isinstance)
section
variable {P : Program} {w : World} {K : W.Frag} {mg : Str → Option Value} {base : Heap} {a : Ad}
theorem Geo.up {S : Int} {n : Nat} {B B' : BkS} (G : Geo S n B) (h1 : B'.slots = B.slots) (h2 : B'.spans = B.spans) (h3 : B'.rows.length = B.rows.length) : Geo S n B' := ⟨G.lo, G.hi, G.n1, G.n6, h1.trans G.slots, h2.trans G.spans, h3.trans G.len⟩
def spStart (c : Cl) : Sp := fun vs H Q _ => ∃ (A : Adr) (sl : Sl) (H0 : Hp) (B : BkS) (S : Int) (n : Nat) (k t : Int) (f : Int → Option Int), vs = [.ref (A.ad .book), .int k, .int t] ∧ Bk c A sl H0 H B ∧ Geo S n B ∧ RackOK S n B.now B.rows f ∧ f k = none ∧ B.now < t ∧ 0 ≤ k ∧ k < 63 ∧ B.ticks.length ≤ 1000 ∧
 ∀ (H' : Hp) (sl' : Sl) (rows' : List RowS), Bk c A sl' H0 H' { B with rows := rows', ticks := put B.ticks k t } → rows'.length = B.rows.length → RackOK S n B.now rows' (gput f k (some t)) → Q .non H'
theorem VO : FnScope ["book", "number", "tick"] ["book", "number", "tick"] (Ze ZQ) := Zr
theorem YN (T : Txt K mg a) : FnOk P w K mg base (CXe P w) 4 a.f_start_waiting a.fd_start_waiting ["book", "number", "tick"] (spStart (clOf a)) := by
 have G_Rack_put := ok_Rack_put (P := P) (w := w) (base := base) T
 refine T.F_start_waiting.okN VO (fun vs H Q E h => ?_) (fun cdv A' outer s H vs Q E hr h => ?_)
 · obtain ⟨A, sl, H0, B, S, n, k, t, f, rfl, _⟩ := h
   rfl
 · obtain ⟨A, sl, H0, B, S, n, k, t, f, rfl, b, G, R, hk, ht, hd1, hd2, hl, kk⟩ := h
   have hu := Vj hr
   refine ⟨_, (Zg (Xu hu (Zp (pv 0) rfl) (pv 1) (pv 2) rfl)
     (Zi (ZK (Vv (Zp (pv 0) rfl) T.cl_Rack T.m_Rack_put G_Rack_put (hr.mono (by decide)) T.B_Rack_put .nil ZC (Za (Zp (pv 0) rfl) (Za (pv 1) (Za (pv 2) Zf))))))), ?_⟩
   refine ⟨_, rfl, _, rfl, _, _, _, _, _, rfl, b.book, T.cl_Book, T.n_Book_ticks, rfl, _, rfl, _, _, rfl, b.putT k t hl, ?_⟩
   have b1 := b.wTicks (put B.ticks k t)
   refine ⟨_, rfl, _, _, _, _, _, rfl, b1.book, T.cl_Book, T.n_Book_rack, rfl, _, _, _, rfl, b1.rack, rfl, _, rfl, _, _, _, _, _, rfl, b1.book, T.cl_Book, T.n_Book_now, rfl, _, rfl, _, rfl, ?_⟩
   exact ⟨A, sl, H0, _, S, n, B.now, k, t, f, rfl, b1, G.up rfl rfl rfl, R, hk, ht, hd1, hd2, fun H' sl' rows' b2 e R' => kk H' sl' rows' b2 e R'⟩
def spForget (c : Cl) : Sp := fun vs H Q _ => ∃ (A : Adr) (sl : Sl) (H0 : Hp) (B : BkS) (k : Int) (nm : Str) (sp : Option Int), vs = [.ref (A.ad .book), .int k] ∧ Bk c A sl H0 H B ∧ get B.names k = some nm ∧ get B.steps k = some sp ∧ ∀ H', Bk c A sl H0 H' { B with steps := drop B.steps k, names := drop B.names k } → Q (.str nm) H'
theorem sc_forget : FnScope ["book", "number"] ["book", "number"] (Ze Xn) := Zr
theorem ok_forget (T : Txt K mg a) : FnOk P w K mg base (CXe P w) 1 a.f_forget a.fd_forget ["book", "number"] (spForget (clOf a)) := by
 refine T.F_forget.okN sc_forget (fun vs H Q E h => ?_) (fun cdv A' outer s H vs Q E hr h => ?_)
 · obtain ⟨A, sl, H0, B, k, nm, sp, rfl, _⟩ := h
   rfl
 · obtain ⟨A, sl, H0, B, k, nm, sp, rfl, b, hn, hs, kk⟩ := h
   refine ⟨_, (Zg (ZK (Vz (Zp (pv 0) rfl) (pv 1) ⟨rfl, rfl, rfl, rfl⟩)) (Zi (ZA (Vz (Zp (pv 0) rfl) (pv 1) ⟨rfl, rfl, rfl, rfl⟩)))), ?_⟩
   refine ⟨_, rfl, _, _, _, _, _, rfl, b.book, T.cl_Book, T.n_Book_steps, rfl, _, rfl, .inl ⟨_, .inl b.steps⟩, _, rfl, _, Sum.inl k, Yi sp, b.steps, rfl, (by rw [YF, hs]; rfl), ?_⟩
   have b1 := b.popS k
   refine ⟨_, rfl, _, _, _, _, _, rfl, b1.book, T.cl_Book, T.n_Book_names, rfl, _, rfl, .inl ⟨_, .inl b1.names⟩, _, rfl, _, Sum.inl k, .str nm, b1.names, rfl, (by rw [YF]; show (get B.names k).map _ = _; rw [hn]; rfl), ?_⟩
   exact kk _ (b1.popN k)
def Lg (x : Int) : Prop := x.natAbs.log2 < 1920
def spCheckTick (c : Cl) (Past : Addr) : Sp := fun vs H Q E => ∃ (A : Adr) (sl : Sl) (H0 : Hp) (B : BkS) (due : Int), vs = [.ref (A.ad .book), .int due] ∧ Bk c A sl H0 H B ∧ Lg due ∧ (due ≤ B.now → E (.ref Past) none H) ∧ (B.now < due → Q .non H)
theorem Tp : FnScope ["book", "due"] ["book", "due"] (Ze Ys) := Zr
theorem Tv (T : Txt K mg a) : FnOk P w K mg base (CXe P w) 1 a.f_check_tick a.fd_check_tick ["book", "due"] (spCheckTick (clOf a) a.C_Past) := by
 refine T.F_check_tick.okE Tp (fun vs H Q E h => ?_) (fun cdv A' outer s H vs Q E hr h => ?_)
 · obtain ⟨A, sl, H0, B, due, rfl, _⟩ := h
   rfl
 · obtain ⟨A, sl, H0, B, due, rfl, b, hl, k0, k1⟩ := h
   refine ⟨_, (Zi (YC (Zy op_le (pv 1) (Zp (pv 0) rfl) (ZG _)) (Zi (XD rz_fn rfl rfl T.c_Past T.x_Past (Za (Vy (YW (Xv (pv 1) (YW US)))) Zf))) Yf)), ?_⟩
   refine ⟨_, rfl, _, rfl, _, _, _, _, _, rfl, b.book, T.cl_Book, T.n_Book_now, rfl, _, _, rfl, rfl, _, rfl, ?_⟩
   refine ite2 (fun c => ?_) (fun c => ?_)
   · exact ⟨_, rfl, _, rfl, hl, fun y => ⟨by show 1 ≤ sizeLine; decide, k0 (of_decide_eq_true c)⟩⟩
   · exact k1 (by have : ¬ due ≤ B.now := fun z => c (decide_eq_true z)
                  omega)
def spCheckStep (Past : Addr) : Sp := fun vs H Q E => ∃ (sp : Option Int), vs = [Yi sp] ∧ (∀ s, sp = some s → Lg s) ∧ (∀ s, sp = some s → s < 1 → E (.ref Past) none H) ∧ ((∀ s, sp = some s → 1 ≤ s) → Q .non H)
theorem Tq : FnScope ["step"] ["step"] (Ze Yt) := Zr
theorem Tw (T : Txt K mg a) : FnOk P w K mg base (CXe P w) 1 a.f_check_step a.fd_check_step ["step"] (spCheckStep a.C_Past) := by
 refine T.F_check_step.okE Tq (fun vs H Q E h => ?_) (fun cdv A' outer s H vs Q E hr h => ?_)
 · obtain ⟨sp, rfl, _⟩ := h
   rfl
 · obtain ⟨sp, rfl, hl, k0, k1⟩ := h
   refine ⟨_, (Zi (YC (pw_and (Zy Sv (pv 0) YM (ZG _)) (Ss (Zy UV (pv 0) Zj (ZG _)))).pt (Zi (XD rz_fn rfl rfl T.c_Past T.x_Past (Za (Vy (YW (Xv (pv 0) (YW US)))) Zf))) Yf)), ?_⟩
   cases sp with
   | none =>
     refine ⟨_, rfl, rfl, _, rfl, iteF ?_⟩
     exact iteF (k1 fun s z => by cases z)
   | some x =>
     refine ⟨_, rfl, rfl, _, rfl, iteT ?_⟩
     refine ⟨_, rfl, _, _, rfl, rfl, _, rfl, ?_⟩
     refine ite2 (fun c => ?_) (fun c => ?_)
     · exact ⟨_, rfl, _, rfl, hl x rfl, fun y => ⟨by show 1 ≤ sizeLine; decide, k0 x rfl (of_decide_eq_true c)⟩⟩
     · exact k1 fun s z => by
         cases z
         have : ¬ x < 1 := fun z => c (decide_eq_true z)
         omega
def UK (Past : Addr) : Sp := fun vs H Q E => ∃ (t : Int), vs = [.int t] ∧ Lg t ∧ (t < 0 → E (.ref Past) none H) ∧ (0 ≤ t → Q .non H)
theorem VP : FnScope ["ticks"] ["ticks"] (Ze ZR) := Zr
theorem VU (T : Txt K mg a) : FnOk P w K mg base (CXe P w) 1 a.f_check_stretch a.fd_check_stretch ["ticks"] (UK a.C_Past) := by
 refine T.F_check_stretch.okE VP (fun vs H Q E h => ?_) (fun cdv A' outer s H vs Q E hr h => ?_)
 · obtain ⟨t, rfl, _⟩ := h
   rfl
 · obtain ⟨t, rfl, hl, k0, k1⟩ := h
   refine ⟨_, (Zi (YC (Zy UV (pv 0) Zj (ZG _)) (Zi (XD rz_fn rfl rfl T.c_Past T.x_Past (Za (Vy (YW (Xv (pv 0) (YW US)))) Zf))) Yf)), ?_⟩
   refine ⟨_, rfl, _, _, rfl, rfl, _, rfl, ?_⟩
   refine ite2 (fun c => ?_) (fun c => ?_)
   · exact ⟨_, rfl, _, rfl, hl, fun y => ⟨by show 1 ≤ sizeLine; decide, k0 (of_decide_eq_true c)⟩⟩
   · have : ¬ t < 0 := fun z => c (decide_eq_true z)
     exact k1 (by omega)
end
end Tk
end
section
namespace Tk
open PySem L2 Mir Rk Tb
open PyProof.Rows (boot_sorted boot_min boot_enumerate boot_isinstance boot_sum boot_max)
variable {P : Program} {w : World} {K : W.Frag} {mg : Str → Option Value} {base : Heap} {a : Ad}
def Vh (r : Int × Int × Str) : List V := [.int r.1, .int r.2.1, .str r.2.2]
theorem gput_same {f : Int → Option Int} {k : Int} (h : f k = none) : gput f k none = f := by
 funext m
 unfold gput
 by_cases e : m = k
 · rw [if_pos e, e, h]
 · rw [if_neg e]
def spRing (c : Cl) : Sp := fun vs H Q _ => ∃ (A : Adr) (sl : Sl) (H0 : Hp) (B : BkS) (S : Int) (n : Nat) (k t : Int) (f : Int → Option Int) (nm : Str) (sp : Option Int), vs = [.ref (A.ad .book), .int k] ∧ Bk c A sl H0 H B ∧ Geo S n B ∧ RackOK S n B.now B.rows f ∧ f k = none ∧ 0 ≤ k ∧ k < 63 ∧ B.ticks.length ≤ 1000 ∧
 get B.ticks k = some t ∧ get B.names k = some nm ∧ get B.steps k = some sp ∧ (∀ s, sp = some s → 1 ≤ s) ∧
 ∀ (H' : Hp) (sl' : Sl) (rows' : List RowS) (p : Addr), H0 p = none → Bk c A sl' (upd H0 p (.tup (Vh (B.now, k, nm)))) H' { ringB B k sp with rows := rows' } → rows'.length = B.rows.length → RackOK S n B.now rows' (gput f k (sp.map (B.now + ·))) → Q (.ref p) H'
theorem sc_ring : FnScope ["book", "number", "step"] ["book", "number"] (Ze VR) := Zr
theorem ok_ring (T : Txt K mg a) : FnOk P w K mg base (CXe P w) 5 a.f_ring a.fd_ring ["book", "number"] (spRing (clOf a)) := by
 have G_forget := ok_forget (P := P) (w := w) (base := base) T
 have G_start_waiting := YN (P := P) (w := w) (base := base) T
 refine T.F_ring.okN sc_ring (fun vs H Q E h => ?_) (fun cdv A' outer s H vs Q E hr h => ?_)
 · obtain ⟨A, sl, H0, B, S, n, k, t, f, nm, sp, rfl, _⟩ := h
   rfl
 · obtain ⟨A, sl, H0, B, S, n, k, t, f, nm, sp, rfl, b, G, R, hk, hd1, hd2, hl, ht, hn, hs, hp, kk⟩ := h
   have hu := Vj hr
   refine ⟨_, (Zg (Zs (i := 2) sc_ring.nd rfl (Or.inl rfl) (Yy hu (Zp (pv 0) rfl) (pv 1) (fun _ _ => rfl)))
     (Zg (YC (Zy Sw (pv 2) YM (ZG _)) (Zg (ZK (Vz (Zp (pv 0) rfl) (pv 1) ⟨rfl, rfl, rfl, rfl⟩))
     (Zi (ZA (Vn (Za (Zp (pv 0) rfl) (Za (pv 1) (Za (Zu G_forget (hr.mono (by decide)) rfl T.f_forget T.kp_forget T.B_forget .nil ZC (Za (pv 0) (Za (pv 1) Zf))) Zf))))))) Yf)
     (Zg (ZK (Zu G_start_waiting (hr.mono (by decide)) rfl T.f_start_waiting T.kp_start_waiting T.B_start_waiting .nil ZC (Za (pv 0) (Za (pv 1) (Za (Zm Ye (Zp (pv 0) rfl) (pv 2)) Zf)))))
     (Zi (ZA (Vn (Za (Zp (pv 0) rfl) (Za (pv 1) (Za (Yy hu (Zp (pv 0) rfl) (pv 1) (fun _ _ => rfl)) Zf))))))))), ?_⟩
   have g0 := b.getSt k
   rw [hs] at g0
   refine ⟨_, rfl, _, _, _, _, _, rfl, b.book, T.cl_Book, T.n_Book_steps, rfl, _, rfl, _, _, rfl, g0, ?_⟩
   cases sp with
   | none =>
     refine ⟨_, rfl, rfl, _, rfl, iteT ?_⟩
     refine ⟨_, rfl, _, _, _, _, _, rfl, b.book, T.cl_Book, T.n_Book_ticks, rfl, _, rfl, .inl ⟨_, .inl b.ticks⟩, _, rfl, _, Sum.inl k, .int t, b.ticks, rfl, (by rw [YF, ht]; rfl), ?_⟩
     have b1 := b.popT k
     refine ⟨_, rfl, _, _, _, _, _, rfl, b1.book, T.cl_Book, T.n_Book_now, rfl, _, rfl, _, rfl, _, rfl, A, sl, H0, _, k, nm, none, rfl, b1, hn, hs, fun H2 b2 => ?_⟩
     refine ⟨by show 3 ≤ sizeLine; decide, fun p hp => ?_⟩
     exact kk _ sl B.rows p (b2.same.free hp) (b2.out (.inl hp)) rfl (by rw [show (none : Option Int).map (B.now + ·) = none from rfl, gput_same hk]; exact R)
   | some x =>
     refine ⟨_, rfl, rfl, _, rfl, iteF ?_⟩
     refine ⟨_, rfl, _, rfl, _, rfl, _, _, _, _, _, rfl, b.book, T.cl_Book, T.n_Book_now, rfl, _, rfl, _, _, rfl, rfl, ?_⟩
     have hx := hp x rfl
     refine ⟨A, sl, H0, B, S, n, k, B.now + x, f, rfl, b, G, R, hk, by omega, hd1, hd2, hl, fun H2 sl2 rows2 b2 e2 R2 => ?_⟩
     have g1 := b2.getN k
     rw [show get _ k = some nm from hn] at g1
     refine ⟨_, rfl, _, _, _, _, _, rfl, b2.book, T.cl_Book, T.n_Book_now, rfl, _, rfl, _, rfl, _, _, _, _, _, rfl, b2.book, T.cl_Book, T.n_Book_names, rfl, _, rfl, _, _, rfl, g1, ?_⟩
     refine ⟨by show 3 ≤ sizeLine; decide, fun p hp => ?_⟩
     exact kk _ sl2 rows2 p (b2.same.free hp) (b2.out (.inl hp)) e2 R2
end Tk
end
section
namespace Tb
open PySem L2 Mir Rk
theorem Out.sameT {B : BkS} (o : Out B) {t : Dct Int} (nd : (keys t).Nodup) (h : ∀ m, get t m = get B.ticks m) : Out { B with ticks := t } where
 ndT := nd
 ndK := o.ndK
 ndN := o.ndN
 ndS := o.ndS
 nx := o.nx
 dom := o.dom
 nm := fun k => by show (get B.names k).isSome = ((get t k).isSome || (get B.kept k).isSome); rw [h]; exact o.nm k
 st := o.st
 pos := o.pos
 dis := fun k e => o.dis k (by rw [← h]; exact e)
 kp := o.kp
theorem Out.rows {B : BkS} (o : Out B) (r : List RowS) : Out { B with rows := r } := ⟨o.ndT, o.ndK, o.ndN, o.ndS, o.nx, o.dom, o.nm, o.st, o.pos, o.dis, o.kp⟩
theorem Out.nowS {B : BkS} (o : Out B) (r : Int) : Out { B with now := r } := ⟨o.ndT, o.ndK, o.ndN, o.ndS, o.nx, o.dom, o.nm, o.st, o.pos, o.dis, o.kp⟩
end Tb
namespace Tk
open PySem L2 Mir Rk Tb
open PyProof.Rows (boot_sorted boot_min boot_enumerate boot_isinstance)
structure BOK (S : Int) (n : Nat) (B : BkS) : Prop where
 geo : Geo S n B
 rack : RackOK S n B.now B.rows (get B.ticks)
 out : Out B
 nn : 0 ≤ B.now
def RingsAt (H : Hp) (l : Addr) (rs : List (Int × Int × Str)) : Prop := ∃ qs : List (Addr × Int × Int × Str), qs.map (·.2) = rs ∧ H l = some (.lst (qs.map fun q => V.ref q.1)) ∧ ∀ q ∈ qs, H q.1 = some (.tup (Vh q.2))
theorem RingsAt.same {H H' : Hp} {l : Addr} {rs : List (Int × Int × Str)} (r : RingsAt H l rs) (s : Same H H') : RingsAt H' l rs := by
 obtain ⟨qs, e, h, t⟩ := r
 exact ⟨qs, e, s _ _ h, fun q hq => s _ _ (t q hq)⟩
theorem RingsAt.snoc {H : Hp} {l p : Addr} {r : Int × Int × Str} {qs : List (Addr × Int × Int × Str)} (h : H l = some (.lst (qs.map fun q => V.ref q.1))) (t : ∀ q ∈ qs, H q.1 = some (.tup (Vh q.2))) (hp : H p = none) :
   RingsAt (upd (upd H p (.tup (Vh r))) l (.lst ((qs.map fun q => V.ref q.1) ++ [.ref p]))) l (qs.map (·.2) ++ [r]) := by
 have npl : p ≠ l := fun z => by rw [z, h] at hp; cases hp
 refine ⟨qs ++ [(p, r)], by simp, by rw [Zb]; simp, fun q hq => ?_⟩
 rcases List.mem_append.mp hq with hq | hq
 · have tq := t q hq
   have n1 : q.1 ≠ l := fun z => by rw [z, h] at tq; cases tq
   have n2 : q.1 ≠ p := fun z => by rw [z, hp] at tq; cases tq
   rw [Zc n1, Zc n2]
   exact tq
 · have e : q = (p, r) := by simpa using hq
   subst e
   rw [Zc npl, Zb]
section
variable {P : Program} {w : World} {K : W.Frag} {mg : Str → Option Value} {base : Heap} {a : Ad}
def spTurnTo (c : Cl) : Sp := fun vs H Q _ => ∃ (A : Adr) (sl : Sl) (H0 : Hp) (B : BkS) (S : Int) (n : Nat) (start goal : Int), vs = [.ref (A.ad .book), .int start] ∧ Bk c A sl H0 H B ∧ BOK S n B ∧ IsMin S n B.now (get B.ticks) start ∧ start ≤ goal ∧
 ∀ (H' : Hp) (sl' : Sl) (H1 : Hp) (B' : BkS) (lr : Addr) (rs : List (Int × Int × Str)), Same H0 H1 → H0 lr = none → RingsAt H1 lr rs → Bk c A sl' H1 H' B' → BOK S n B' → B'.now = start → B'.next = B.next → rest B' = rest B → Steps goal (wait B) rs (wait B') → rs.length ≤ 63 → Q (.ref lr) H'
theorem sc_turn_to : FnScope ["book", "start", "rung", "number"] ["book", "start"] (Ze Xb) := Zr
structure Mid (c : Cl) (A : Adr) (sl : Sl) (H0 : Hp) (B : BkS) (S : Int) (n : Nat) (start goal : Int) (out : List Int) (l lr : Addr) (i : Nat) (H : Hp) (H1 : Hp) (Bi : BkS) (rs : List (Int × Int × Str)) : Prop where
 bk : Bk c A sl H1 H Bi
 same : Same H0 H1
 lst : H1 l = some (.lst (out.map V.int))
 rng : RingsAt H1 lr rs
 geo : Geo S n Bi
 ok : Out Bi
 now : Bi.now = start
 nx : Bi.next = B.next
 rst : rest Bi = rest B
 steps : Steps goal (wait B) rs (wait Bi)
 len : rs.length ≤ i
 rack : RackOK S n start Bi.rows (fun k => if k ∈ out.drop i then none else get Bi.ticks k)
 pend : ∀ k, k ∈ out.drop i → ∃ t, get Bi.ticks k = some t ∧ start ≤ t
theorem drop_cons {out : List Int} {i : Nat} {k : Int} (h : out[i]? = some k) : out.drop i = k :: out.drop (i + 1) := by
 have hi : i < out.length := (List.getElem?_eq_some_iff.mp h).1
 rw [List.drop_eq_getElem_cons hi]
 congr 1
 exact (List.getElem?_eq_some_iff.mp h).2
theorem TJ {B : BkS} {k y : Int} {sp : Option Int} (h : y ≠ k) : get (ringB B k sp).ticks y = get B.ticks y := by
 cases sp with
 | none => show get (drop B.ticks k) y = _; rw [ZB, if_neg h]
 | some x => show get (put B.ticks k (B.now + x)) y = _; rw [Zw, if_neg h]
theorem ok_turn_to (T : Txt K mg a) : FnOk P w K mg base (CXe P w) 6 a.f_turn_to a.fd_turn_to ["book", "start"] (spTurnTo (clOf a)) := by
 have G_Rack_take_first := Vo (P := P) (w := w) (base := base) T
 have G_ring := ok_ring (P := P) (w := w) (base := base) T
 have G_start_waiting := YN (P := P) (w := w) (base := base) T
 refine T.F_turn_to.okN sc_turn_to (fun vs H Q E h => ?_) (fun cdv A' outer s H vs Q E hr h => ?_)
 · obtain ⟨A, sl, H0, B, S, n, start, goal, rfl, _⟩ := h
   rfl
 · obtain ⟨A, sl, H0, B, S, n, start, goal, rfl, b, ok, M, hg, kk⟩ := h
   have hu := Vj hr
   refine ⟨_, (Zg (Yo (pv 0) (pv 1) rfl)
     (Zg (Zs (i := 2) sc_turn_to.nd rfl (Or.inl rfl) (YX Zf))
     (Zg (XE PassesOwn.never rfl (Va (XF (Zp (pv 0) rfl) T.cl_Rack T.m_Rack_take_first G_Rack_take_first (hr.mono (by decide)) T.B_Rack_take_first .nil ZC)) (Ym (i := 3) sc_turn_to.nd rfl (Or.inl rfl)) (Zi (YC (Zy op_eq (Yy hu (Zp (pv 0) rfl) (pv 3) (fun _ _ => rfl)) (pv 1) (ZG _)) (Zi (ZK (UU F.plainAttrs_list F.slot_list_append F.type_list_append Vb (pv 2) (Za (Zu G_ring (hr.mono (by decide)) rfl T.f_ring T.kp_ring T.B_ring .nil ZC (Za (pv 0) (Za (pv 3) Zf))) Zf)))) (Zi (ZK (Zu G_start_waiting (hr.mono (by decide)) rfl T.f_start_waiting T.kp_start_waiting T.B_start_waiting .nil ZC (Za (pv 0) (Za (pv 3) (Za (Yy hu (Zp (pv 0) rfl) (pv 3) (fun _ _ => rfl)) Zf)))))))))
     (Zi (ZA (pv 2)))))), ?_⟩
   refine ⟨_, rfl, _, rfl, _, _, _, _, rfl, b.book, T.cl_Book, T.n_Book_now, (by show 7 < 1000; decide), ?_⟩
   have b1 := b.wNow start
   refine ⟨by decide, fun lr hlr => ?_⟩
   have b2 := b1.out (o := .lst []) (.inl hlr)
   have hlr0 : H0 lr = none := b1.same.free hlr
   refine ⟨_, rfl, _, _, _, _, _, rfl, b2.book, T.cl_Book, T.n_Book_rack, rfl, _, _, _, rfl, b2.rack, rfl, ?_⟩
   refine ⟨A, sl, _, _, S, n, B.now, get B.ticks, start, rfl, b2, ok.geo.up rfl rfl rfl, ok.rack, M, fun H3 l out rows' hl b3 e3 R3 hs hm => ?_⟩
   have hS := ok.rack.pS
   obtain ⟨k0, t0, hk0, hst0⟩ := M.one
   have hlt : B.now < start := by rw [← hst0]; exact lt_st hS (ok.rack.ahead k0 t0 hk0)
   have hlen : out.length ≤ 63 := by
     have q := (VB hs).length_le_of_subset (l₂ := (List.range 63).map (fun (i : Nat) => (i : Int))) fun k hk => by
       obtain ⟨t, ht, _⟩ := (hm k).mp hk
       obtain ⟨z1, z2⟩ := ok.rack.dom k t ht
       exact List.mem_map.mpr ⟨k.toNat, List.mem_range.mpr (by omega), by omega⟩
     simpa using q
   have hlne : lr ≠ l := fun z => by rw [← z, Zb] at hl; cases hl
   refine ⟨_, rfl, ⟨_, SqL.of (b3.same _ _ Zb)⟩, ?_⟩
   refine Tj (K := K) (a := l) (xs := out.map V.int) (fun i σ Hi => ∃ x sl' H1 Bi rs, σ = [some (.ref (A.ad .book)), some (.int start), some (.ref lr), x] ∧ Mid (clOf a) A sl' H0 B S n start goal out l lr i Hi H1 Bi rs)
     ?_ (fun i σ Hi _ ⟨x, sl', H1, Bi, rs, _, m⟩ => SqL.of (m.bk.same _ _ m.lst)) ?_ ?_
   · refine ⟨_, sl, _, _, [], rfl, b3, (Same.upd hlr0).trans (Same.upd hl), Zb, ⟨[], rfl, by rw [Zc hlne, Zb]; rfl, fun q hq => by cases hq⟩, ok.geo.up rfl rfl e3, (ok.out.nowS _).rows _, rfl, rfl, rfl, .nil, Nat.le_refl _, ?_, fun k hk => ?_⟩
     · refine (R3.later (Int.le_of_lt hlt) fun k t e => ?_).congr fun k => ?_
       · rw [Option.filter_eq_some_iff] at e
         have h1 := M.least k t e.1
         have h2 : ¬ st S n B.now t = start := by simpa using e.2
         omega
       · rw [List.drop_zero]
         show _ = if k ∈ out then none else get B.ticks k
         cases e : get B.ticks k with
         | none =>
           by_cases z : k ∈ out <;> simp [z]
         | some t =>
           have q := hm k
           rw [e] at q
           by_cases z : st S n B.now t = start
           · rw [if_pos (q.mpr ⟨t, rfl, z⟩)]
             simp [Option.filter, z]
           · rw [if_neg fun y => by
               obtain ⟨t', h1, h2⟩ := q.mp y
               cases h1
               exact z h2]
             simp [Option.filter, z]
     · rw [List.drop_zero] at hk
       obtain ⟨t, h1, h2⟩ := (hm k).mp hk
       exact ⟨t, h1, by rw [← h2]; exact UG hS n B.now t⟩
   · rintro i v σ Hi hv ⟨x, sl', H1, Bi, rs, rfl, m⟩
     obtain ⟨k, hk, rfl⟩ : ∃ k, out[i]? = some k ∧ v = V.int k := by
       rw [List.getElem?_map] at hv
       cases e : out[i]? with
       | none => rw [e] at hv; cases hv
       | some k => rw [e] at hv; exact ⟨k, rfl, (Option.some.inj hv).symm⟩
     have hdr := drop_cons hk
     have hkd : k ∈ out.drop i := by rw [hdr]; exact List.mem_cons_self
     have hi : i < out.length := (List.getElem?_eq_some_iff.mp hk).1
     have srt' : (k :: out.drop (i + 1)).Pairwise (· < ·) := by rw [← hdr]; exact hs.sublist (List.drop_sublist _ _)
     obtain ⟨hlow, _⟩ := List.pairwise_cons.mp srt'
     have hkn : k ∉ out.drop (i + 1) := fun z => by have := hlow k z; omega
     have hmem : ∀ y, y ≠ k → (y ∈ out.drop i ↔ y ∈ out.drop (i + 1)) := fun y hy => by
       rw [hdr, List.mem_cons]
       exact ⟨fun z => z.resolve_left hy, .inr⟩
     obtain ⟨t, ht, hge⟩ := m.pend k hkd
     obtain ⟨nm, sp, hn, hsp, hw⟩ := m.ok.waits ht
     have gt := m.bk.getT k
     rw [ht] at gt
     have dm := m.ok.domT ht
     have nx63 := m.ok.nx
     have lns := m.ok.lens
     have hfk : (if k ∈ out.drop i then none else get Bi.ticks k) = none := if_pos hkd
     refine ⟨_, rfl, _, _, _, _, _, rfl, m.bk.book, T.cl_Book, T.n_Book_ticks, rfl, _, rfl, _, _, rfl, gt, _, rfl, rfl, _, rfl, ?_⟩
     refine ite2 (fun c => ?_) (fun c => ?_)
     · have c' : t = start := by have := of_decide_eq_true c; injection this
       subst c'
       obtain ⟨qs, eq, hql, hqt⟩ := id m.rng
       refine ⟨_, rfl, .inl ⟨rfl, _, SqL.of (m.bk.same _ _ hql)⟩, _, rfl, _, rfl, ?_⟩
       refine ⟨A, sl', H1, Bi, S, n, k, t, _, nm, sp, rfl, m.bk, m.geo, (by rw [m.now]; exact m.rack), hfk, by omega, by omega, by omega, ht, hn, hsp, fun s z => m.ok.pos k s (by rw [hsp, z]), fun H2 sl2 rows2 p hp b2 e2 R2 => ?_⟩
       have hl2 : H2 lr = some (.lst (qs.map fun q => V.ref q.1)) := b2.same _ _ (by rw [Zc (fun z => by rw [← z, hql] at hp; cases hp)]; exact hql)
       have hql2 : (upd H1 p (.tup (Vh (Bi.now, k, nm)))) lr = some (.lst (qs.map fun q => V.ref q.1)) := by rw [Zc (fun z => by rw [← z, hql] at hp; cases hp)]; exact hql
       have hrl : qs.length = rs.length := by rw [← eq, List.length_map]
       have hml := m.len
       refine ⟨_, _, _, rfl, rfl, hl2, Xe (by rw [List.length_map]; omega), ?_⟩
       have b4 := b2.out (x := lr) (o := .lst ((qs.map fun q => V.ref q.1) ++ [.ref p])) (.inr ⟨_, hql2⟩)
       have lrl : l ≠ lr := hlne.symm
       refine ⟨_, sl2, _, { ringB Bi k sp with rows := rows2 }, rs ++ [(t, k, nm)], rfl, b4, ?_, ?_, ?_, ?_, (m.ok.ringB ht hsp).rows rows2, ?_, ?_, ?_, ?_, ?_, ?_, fun y hy => ?_⟩
       · intro y u hy
         have hy1 := m.same y u hy
         rw [Zc (Zk hy hlr0), Zc (Zk hy1 hp)]
         exact hy1
       · rw [Zc lrl, Zc (Zk m.lst hp)]
         exact m.lst
       · rw [← eq, show t = Bi.now from m.now.symm]
         exact RingsAt.snoc hql hqt hp
       · cases sp <;> exact m.geo.up rfl rfl e2
       · cases sp <;> exact m.now
       · cases sp <;> exact m.nx
       · rw [← m.rst]
         exact m.ok.rest_ringB ht
       · have q := m.ok.wait_ringB (k := k) (sp := sp) (nm := nm) (by rw [ht, m.now]) hsp hn
         have hst : wait { ringB Bi k sp with rows := rows2 } = fput (wait Bi) k (after ⟨nm, t, sp⟩) := by rw [← m.now]; rw [m.now]; rw [← show Bi.now = t from m.now]; exact q
         rw [hst]
         refine .snoc m.steps (a := ⟨nm, t, sp⟩) ⟨hw, hg, fun y z hz => ?_⟩
         obtain ⟨_, _, hzt⟩ := alarm_some.mp hz
         by_cases hy : y ∈ out.drop i
         · obtain ⟨t', h1, h2⟩ := m.pend y hy
           rw [hzt] at h1
           cases h1
           have hky : k ≤ y := by
             rw [hdr] at hy
             rcases List.mem_cons.mp hy with e | e
             · omega
             · exact Int.le_of_lt (hlow y e)
           show t < z.tick ∨ (t = z.tick ∧ k ≤ y)
           omega
         · have := m.rack.ahead y z.tick (by show (if y ∈ out.drop i then none else get Bi.ticks y) = _; rw [if_neg hy]; exact hzt)
           exact .inl this
       · rw [List.length_append, List.length_singleton]; have := m.len; omega
       · rw [← show Bi.now = t from m.now]
         refine R2.congr fun y => ?_
         show _ = if y ∈ out.drop (i + 1) then none else get (ringB Bi k sp).ticks y
         unfold gput
         by_cases hy : y = k
         · rw [if_pos hy, hy, if_neg hkn]
           cases sp with
           | none => show none = get (drop Bi.ticks k) k; rw [ZB, if_pos rfl]
           | some x => show some (Bi.now + x) = get (put Bi.ticks k (Bi.now + x)) k; rw [Zw, if_pos rfl]
         · rw [if_neg hy, TJ hy]
           dsimp only
           by_cases hz : y ∈ out.drop (i + 1)
           · rw [if_pos hz, if_pos ((hmem y hy).mpr hz)]
           · rw [if_neg hz, if_neg fun q => hz ((hmem y hy).mp q)]
       · have hyk : y ≠ k := fun z => hkn (z ▸ hy)
         show ∃ t', get (ringB Bi k sp).ticks y = some t' ∧ t ≤ t'
         rw [TJ hyk]
         exact m.pend y ((hmem y hyk).mpr hy)
     · have c' : t ≠ start := fun z => c (decide_eq_true (congrArg V.int z))
       refine ⟨_, rfl, _, rfl, _, rfl, _, _, _, _, _, rfl, m.bk.book, T.cl_Book, T.n_Book_ticks, rfl, _, rfl, _, _, rfl, gt, ?_⟩
       refine ⟨A, sl', H1, Bi, S, n, k, t, _, rfl, m.bk, m.geo, (by rw [m.now]; exact m.rack), hfk, (by rw [m.now]; omega), by omega, by omega, by omega, fun H2 sl2 rows2 b2 e2 R2 => ?_⟩
       have eget : ∀ y, get (put Bi.ticks k t) y = get Bi.ticks y := fun y => by
         rw [Zw]
         by_cases hy : y = k
         · rw [if_pos hy, hy, ht]
         · rw [if_neg hy]
       have ew : wait { Bi with rows := rows2, ticks := put Bi.ticks k t } = wait Bi := by
         funext y
         show Xh (get Bi.names y) (get Bi.steps y) (get (put Bi.ticks k t) y) = _
         rw [eget]
         rfl
       refine ⟨_, sl2, H1, _, rs, rfl, b2, m.same, m.lst, m.rng, m.geo.up rfl rfl e2, (m.ok.sameT (YO m.ok.ndT _ _) eget).rows rows2, m.now, m.nx, m.rst, (by rw [ew]; exact m.steps), (by have := m.len; omega), ?_, fun y hy => ?_⟩
       · rw [← m.now]
         refine R2.congr fun y => ?_
         show _ = if y ∈ out.drop (i + 1) then none else get (put Bi.ticks k t) y
         rw [eget]
         unfold gput
         by_cases hy : y = k
         · rw [if_pos hy, hy, if_neg hkn, ht]
         · rw [if_neg hy]
           dsimp only
           by_cases hz : y ∈ out.drop (i + 1)
           · rw [if_pos hz, if_pos ((hmem y hy).mpr hz)]
           · rw [if_neg hz, if_neg fun q => hz ((hmem y hy).mp q)]
       · have hyk : y ≠ k := fun z => hkn (z ▸ hy)
         show ∃ t', get (put Bi.ticks k t) y = some t' ∧ start ≤ t'
         rw [eget]
         exact m.pend y ((hmem y hyk).mpr hy)
   · rintro σ Hi ⟨x, sl', H1, Bi, rs, rfl, m⟩
     rw [List.length_map] at m
     have hR := m.rack
     rw [List.drop_length] at hR
     refine ⟨_, rfl, kk Hi sl' H1 Bi lr rs m.same hlr0 m.rng m.bk ⟨m.geo, (by rw [m.now]; exact hR.congr fun y => by simp), m.ok, by rw [m.now]; have := ok.nn; omega⟩ m.now m.nx m.rst m.steps (by have := m.len; omega)⟩
end
end Tk
end
section
namespace Tk
open PySem L2 Mir Rk Tb
open PyProof.Rows (boot_sorted boot_min boot_enumerate boot_isinstance boot_sum boot_max)
variable {P : Program} {w : World} {K : W.Frag} {mg : Str → Option Value} {base : Heap} {a : Ad}
structure Vw where
 S : Int
 n : Nat
 now : Int
 next : Int
 wait : Fn Str
 rest : Fn Str
def BookAt (c : Cl) (H0 H : Hp) (p : Addr) (v : Vw) : Prop := ∃ A sl B, A.ad .book = p ∧ Bk c A sl H0 H B ∧ BOK v.S v.n B ∧ B.now = v.now ∧ B.next = v.next ∧ wait B = v.wait ∧ rest B = v.rest
theorem RingsAt.cat {H : Hp} {l : Addr} {qs qs2 : List (Addr × Int × Int × Str)} (h : H l = some (.lst (qs.map fun q => V.ref q.1))) (t : ∀ q ∈ qs, H q.1 = some (.tup (Vh q.2))) (t2 : ∀ q ∈ qs2, H q.1 = some (.tup (Vh q.2))) :
   RingsAt (upd H l (.lst ((qs.map fun q => V.ref q.1) ++ (qs2.map fun q => V.ref q.1)))) l (qs.map (·.2) ++ qs2.map (·.2)) := by
 refine ⟨qs ++ qs2, by simp, by rw [Zb]; simp, fun q hq => ?_⟩
 have tq : H q.1 = some (.tup (Vh q.2)) := by
   rcases List.mem_append.mp hq with hq | hq
   · exact t q hq
   · exact t2 q hq
 rw [Zc fun z => by rw [z, h] at tq; cases tq]
 exact tq
def Tn (c : Cl) : Sp := fun vs H Q _ => ∃ (A : Adr) (sl : Sl) (H0 : Hp) (B : BkS) (S : Int) (n : Nat) (now : Int) (f : Int → Option Int), vs = [.ref (A.ad .rack)] ∧ Bk c A sl H0 H B ∧ Geo S n B ∧ RackOK S n now B.rows f ∧ ∀ x, (((∀ k, f k = none) ∧ x = .non) ∨ ∃ m, IsMin S n now f m ∧ x = .int m) → Q x H
theorem XH (T : Txt K mg a) : FnOk P w K mg base (CXe P w) 2 a.f_Rack_first_start a.fd_Rack_first_start ["self"] (Tn (clOf a)) :=
 (Vg T).imp fun vs H Q E ⟨A, sl, H0, B, S, n, now, f, e, b, G, R, k⟩ => ⟨A, sl, H0, B, S, n, now, f, e, b, G, R, fun h => k _ (.inl ⟨h, rfl⟩), fun m hm => k _ (.inr ⟨m, hm, rfl⟩)⟩
def spPass (c : Cl) (Past : Addr) : Sp := fun vs H Q E => ∃ (H0 : Hp) (p : Addr) (v : Vw) (t : Int), vs = [.ref p, .int t] ∧ BookAt c H0 H p v ∧ Lg t ∧ (t < 0 → E (.ref Past) none H) ∧ (0 ≤ t → muF (v.now + t) 63 v.wait ≤ 1000000 ∧
 ∀ (H' H1 : Hp) (lr : Addr) (rs : List (Int × Int × Str)) (g : Fn Str), Same H0 H1 → H0 lr = none → RingsAt H1 lr rs → BookAt c H1 H' p { v with now := v.now + t, wait := g } → Runs (v.now + t) v.wait rs g → Q (.ref lr) H')
theorem sc_pass_ticks : FnScope ["book", "ticks", "end", "rung", "start"] ["book", "ticks"] (Ze Yr) := Zr
structure Going (c : Cl) (A : Adr) (sl : Sl) (H0 : Hp) (B : BkS) (S : Int) (n : Nat) (goal : Int) (lr : Addr) (H : Hp) (H1 : Hp) (Bi : BkS) (rs : List (Int × Int × Str)) (x : V) : Prop where
 bk : Bk c A sl H1 H Bi
 same : Same H0 H1
 rng : RingsAt H1 lr rs
 ok : BOK S n Bi
 nx : Bi.next = B.next
 rst : rest Bi = rest B
 le : Bi.now ≤ goal
 steps : Steps goal (wait B) rs (wait Bi)
 st : ((∀ k, get Bi.ticks k = none) ∧ x = .non) ∨ ∃ m, IsMin S n Bi.now (get Bi.ticks) m ∧ x = .int m
theorem Tu (T : Txt K mg a) : FnOk P w K mg base (CXe P w) 7 a.f_pass_ticks a.fd_pass_ticks ["book", "ticks"] (spPass (clOf a) a.C_Past) := by
 have G_check_stretch := VU (P := P) (w := w) (base := base) T
 have G_Rack_first_start := XH (P := P) (w := w) (base := base) T
 have G_turn_to := ok_turn_to (P := P) (w := w) (base := base) T
 refine T.F_pass_ticks.okE sc_pass_ticks (fun vs H Q E h => ?_) (fun cdv A' outer s H vs Q E hr h => ?_)
 · obtain ⟨H0, p, v, t, rfl, _⟩ := h
   rfl
 · obtain ⟨H0, p, v, t, rfl, ⟨A, sl, B, rfl, b, ok, e1, e2, e3, e4⟩, hl, k0, k1⟩ := h
   have hu := Vj hr
   refine ⟨_, (Zg (ZK (Zu G_check_stretch (hr.mono (by decide)) rfl T.f_check_stretch T.kp_check_stretch T.B_check_stretch .nil TK (Za (pv 1) Zf)))
     (Zg (Zs (i := 2) sc_pass_ticks.nd rfl (Or.inl rfl) (Zm Ye (Zp (pv 0) rfl) (pv 1)))
     (Zg (Zs (i := 3) sc_pass_ticks.nd rfl (Or.inl rfl) (YX Zf))
     (Zg (Zs (i := 4) sc_pass_ticks.nd rfl (Or.inl rfl) (XF (Zp (pv 0) rfl) T.cl_Rack T.m_Rack_first_start G_Rack_first_start (hr.mono (by decide)) T.B_Rack_first_start .nil ZC))
     (Zg (PS.nox (ps_while PassesOwn.never (pw_and (Zy Sv (pv 4) YM (ZG _)) (Ss (Zy op_le (pv 4) (pv 2) (ZG _)))).pt (Zg (ZK (UU F.plainAttrs_list F.slot_list_extend F.type_list_extend mt_extend (pv 3) (Za (Zu G_turn_to (hr.mono (by decide)) rfl T.f_turn_to T.kp_turn_to T.B_turn_to .nil ZC (Za (pv 0) (Za (pv 4) Zf))) Zf)))
     (Zi (Zs (i := 4) sc_pass_ticks.nd rfl (Or.inl rfl) (XF (Zp (pv 0) rfl) T.cl_Rack T.m_Rack_first_start G_Rack_first_start (hr.mono (by decide)) T.B_Rack_first_start .nil ZC))))))
     (Zg (Yo (pv 0) (pv 2) rfl)
     (Zi (ZA (pv 3))))))))), ?_⟩
   refine ⟨_, rfl, t, rfl, hl, k0, fun ht => ?_⟩
   obtain ⟨hmu, k1⟩ := k1 ht
   refine ⟨_, rfl, _, _, _, _, _, rfl, b.book, T.cl_Book, T.n_Book_now, rfl, _, rfl, _, _, rfl, rfl, ?_⟩
   refine ⟨by decide, fun lr hlr => ?_⟩
   have hlr0 : H0 lr = none := b.same.free hlr
   have b1 := b.out (o := .lst []) (.inl hlr)
   refine ⟨_, rfl, _, _, _, _, _, rfl, b1.book, T.cl_Book, T.n_Book_rack, rfl, _, _, _, rfl, b1.rack, rfl, ?_⟩
   refine ⟨A, sl, _, B, v.S, v.n, B.now, get B.ticks, rfl, b1, ok.geo, ok.rack, fun x hx => ?_⟩
   refine ⟨fun m σ Hi => ∃ x sl' H1 Bi rs, σ = [some (.ref (A.ad .book)), some (.int t), some (.int (B.now + t)), some (.ref lr), some x] ∧ Going (clOf a) A sl' H0 B v.S v.n (B.now + t) lr Hi H1 Bi rs x ∧ m = (B.now + t - Bi.now).toNat,
     ⟨_, x, sl, _, B, [], rfl, ⟨b1, Same.upd hlr0, ⟨[], rfl, Zb, fun q hq => by cases hq⟩, ok, rfl, rfl, by omega, .nil, hx⟩, rfl⟩, ?_⟩
   rintro m σ Hi ⟨x, sl', H1, Bi, rs, rfl, g, rfl⟩
   have mu2 : rs.length + muF (B.now + t) 63 (wait Bi) ≤ 1000000 := by
     have := (g.steps.good ok.out.good).2
     rw [e1, e3] at *
     omega
   have fin : (∀ k y, get Bi.ticks k = some y → B.now + t < st v.S v.n Bi.now y) → ∀ (H2 : Hp), Bk (clOf a) A sl' H1 H2 { Bi with now := B.now + t } → Q (.ref lr) H2 := fun hb H2 b2 => by
     have hS := g.ok.rack.pS
     refine k1 H2 H1 lr rs (wait Bi) g.same hlr0 g.rng ⟨A, sl', _, rfl, b2, ⟨g.ok.geo.up rfl rfl rfl, g.ok.rack.later g.le hb, g.ok.out.nowS _, by show 0 ≤ B.now + t; have := ok.nn; omega⟩, by show B.now + t = v.now + t; rw [e1], g.nx.trans e2, rfl, g.rst.trans e4⟩ ?_
     rw [← e1, ← e3]
     refine g.steps.stop fun k al hal => ?_
     obtain ⟨_, _, h3⟩ := alarm_some.mp hal
     have := hb k _ h3
     have := UG hS v.n Bi.now al.tick
     omega
   rcases g.st with ⟨hn, rfl⟩ | ⟨mm, hm, rfl⟩
   · refine ⟨_, rfl, rfl, _, rfl, iteF ?_⟩
     refine iteF ?_
     refine ⟨_, rfl, _, rfl, _, _, _, _, rfl, g.bk.book, T.cl_Book, T.n_Book_now, (by show 7 < 1000; decide), ?_⟩
     exact ⟨_, rfl, fin (fun k y e => by rw [hn k] at e; cases e) _ (g.bk.wNow _)⟩
   · refine ⟨_, rfl, rfl, _, rfl, iteT ?_⟩
     refine ⟨_, rfl, _, rfl, _, _, rfl, rfl, _, rfl, ?_⟩
     refine ite2 (fun c => ?_) (fun c => ?_)
     · have c' : mm ≤ B.now + t := of_decide_eq_true c
       have hlt : Bi.now < mm := by
         obtain ⟨k', t', h1, h2⟩ := hm.one
         rw [← h2]
         exact lt_st g.ok.rack.pS (g.ok.rack.ahead k' t' h1)
       refine ⟨fun σ' H' => ∃ x sl' H1 Bi' rs, σ' = [some (.ref (A.ad .book)), some (.int t), some (.int (B.now + t)), some (.ref lr), some x] ∧ Going (clOf a) A sl' H0 B v.S v.n (B.now + t) lr H' H1 Bi' rs x ∧ Bi.now < Bi'.now, fun σ' H' ⟨x, sl2, H2, Bi', rs2, h1, h2, h3⟩ => ⟨_, ?_, x, sl2, H2, Bi', rs2, h1, h2, rfl⟩, ?_⟩
       · have := h2.le
         have := g.le
         omega
       · obtain ⟨qs, eq, hql, hqt⟩ := id g.rng
         refine ⟨_, rfl, .inl ⟨rfl, _, SqL.of (g.bk.same _ _ hql)⟩, _, rfl, _, rfl, ?_⟩
         refine ⟨A, sl', H1, Bi, v.S, v.n, mm, B.now + t, rfl, g.bk, g.ok, hm, c', fun H2 sl2 H3 B3 l3 rs3 s3 hl3 r3 b3 ok3 n3 nx3 rst3 st3 len3 => ?_⟩
         obtain ⟨qs3, eq3, hql3, hqt3⟩ := r3
         have hq1 : H3 lr = _ := s3 _ _ hql
         have hll : qs.length = rs.length := by rw [← eq, List.length_map]
         have hll3 : qs3.length = rs3.length := by rw [← eq3, List.length_map]
         have b4 := b3.out (x := lr) (o := .lst ((qs.map fun q => V.ref q.1) ++ (qs3.map fun q => V.ref q.1))) (.inr ⟨_, hq1⟩)
         refine ⟨_, _, _, _, rfl, rfl, b3.same _ _ hq1, b3.same _ _ hql3, (by rw [List.length_map, List.length_map]; have : (1000063 : Nat) ≤ sizeLine := by decide
                                                                              omega), ?_⟩
         refine ⟨_, rfl, _, _, _, _, _, rfl, b4.book, T.cl_Book, T.n_Book_rack, rfl, _, _, _, rfl, b4.rack, rfl, ?_⟩
         refine ⟨A, sl2, _, B3, v.S, v.n, B3.now, get B3.ticks, rfl, b4, ok3.geo, ok3.rack, fun x hx => ?_⟩
         refine ⟨x, sl2, _, B3, rs ++ rs3, rfl, ⟨b4, fun y u hy => ?_, ?_, ok3, nx3.trans g.nx, rst3.trans g.rst, by omega, g.steps.trans st3, hx⟩, by omega⟩
         · rw [Zc (Zk hy hlr0)]
           exact s3 _ _ (g.same _ _ hy)
         · rw [← eq, ← eq3]
           exact RingsAt.cat hq1 (fun q hq => s3 _ _ (hqt q hq)) hqt3
     · have c' : ¬ mm ≤ B.now + t := fun z => c (decide_eq_true z)
       refine ⟨_, rfl, _, rfl, _, _, _, _, rfl, g.bk.book, T.cl_Book, T.n_Book_now, (by show 7 < 1000; decide), ?_⟩
       exact ⟨_, rfl, fin (fun k y e => by have := hm.least k y e; omega) _ (g.bk.wNow _)⟩
def spSet (c : Cl) (Past : Addr) : Sp := fun vs H Q E => ∃ (H0 : Hp) (p : Addr) (v : Vw) (x : Str) (due : Int) (sp : Option Int), vs = [.ref p, .str x, .int due, Yi sp] ∧ BookAt c H0 H p v ∧ Lg due ∧ (∀ s, sp = some s → Lg s) ∧ v.next < 63 ∧
 ((due ≤ v.now ∨ ∃ s, sp = some s ∧ s < 1) → E (.ref Past) none H) ∧ (v.now < due → (∀ s, sp = some s → 1 ≤ s) → ∀ H', BookAt c H0 H' p { v with next := v.next + 1, wait := fput v.wait v.next (some ⟨x, due, sp⟩) } → Q (.int v.next) H')
theorem sc_set_alarm : FnScope ["book", "name", "due", "step", "number"] ["book", "name", "due", "step"] (Ze YA) := Zr
theorem Sx (T : Txt K mg a) : FnOk P w K mg base (CXe P w) 5 a.f_set_alarm a.fd_set_alarm ["book", "name", "due", "step"] (spSet (clOf a) a.C_Past) := by
 have G_check_tick := Tv (P := P) (w := w) (base := base) T
 have G_check_step := Tw (P := P) (w := w) (base := base) T
 have G_start_waiting := YN (P := P) (w := w) (base := base) T
 refine T.F_set_alarm.okE sc_set_alarm (fun vs H Q E h => ?_) (fun cdv A' outer s H vs Q E hr h => ?_)
 · obtain ⟨H0, p, v, x, due, sp, rfl, _⟩ := h
   rfl
 · obtain ⟨H0, p, v, x, due, sp, rfl, ⟨A, sl, B, rfl, b, ok, e1, e2, e3, e4⟩, hl1, hl2, h63, k0, k1⟩ := h
   have hu := Vj hr
   refine ⟨_, (Zg (ZK (Zu G_check_tick (hr.mono (by decide)) rfl T.f_check_tick T.kp_check_tick T.B_check_tick .nil TK (Za (pv 0) (Za (pv 2) Zf))))
     (Zg (ZK (Zu G_check_step (hr.mono (by decide)) rfl T.f_check_step T.kp_check_step T.B_check_step .nil TK (Za (pv 3) Zf)))
     (Zg (Zs (i := 4) sc_set_alarm.nd rfl (Or.inl rfl) (Zp (pv 0) rfl))
     (Zg (Yo (pv 0) (Zm Ye (pv 4) Zj) rfl)
     (Zg (Xu hu (Zp (pv 0) rfl) (pv 4) (pv 1) rfl)
     (Zg (Xu hu (Zp (pv 0) rfl) (pv 4) (pv 3) rfl)
     (Zg (ZK (Zu G_start_waiting (hr.mono (by decide)) rfl T.f_start_waiting T.kp_start_waiting T.B_start_waiting .nil ZC (Za (pv 0) (Za (pv 4) (Za (pv 2) Zf)))))
     (Zi (ZA (pv 4)))))))))), ?_⟩
   refine ⟨_, rfl, _, rfl, A, sl, H0, B, due, rfl, b, hl1, fun z => k0 (.inl (by omega)), fun hd => ?_⟩
   refine ⟨_, rfl, sp, rfl, hl2, fun s z1 z2 => k0 (.inr ⟨s, z1, z2⟩), fun hs => ?_⟩
   have nx := ok.out.nx
   have lns := ok.out.lens
   refine ⟨_, rfl, _, _, _, _, _, rfl, b.book, T.cl_Book, T.n_Book_next_number, rfl, ?_⟩
   refine ⟨_, rfl, _, _, rfl, rfl, _, rfl, _, _, _, _, rfl, b.book, T.cl_Book, T.n_Book_next_number, (by show 7 < 1000; decide), ?_⟩
   have b1 := b.wNext (B.next + 1)
   refine ⟨_, rfl, _, rfl, _, _, _, _, _, rfl, b1.book, T.cl_Book, T.n_Book_names, rfl, _, rfl, _, _, rfl, b1.putN B.next x (by show B.names.length ≤ 1000; omega), ?_⟩
   have b2 := b1.wNames (put B.names B.next x)
   refine ⟨_, rfl, _, rfl, _, _, _, _, _, rfl, b2.book, T.cl_Book, T.n_Book_steps, rfl, _, rfl, _, _, rfl, b2.putSt B.next sp (by show B.steps.length ≤ 1000; omega), ?_⟩
   have b3 := b2.wSteps (put B.steps B.next sp)
   refine ⟨_, rfl, _, rfl, _, rfl, ?_⟩
   obtain ⟨f1, f2, f3, f4⟩ := ok.out.fresh
   refine ⟨A, sl, H0, _, v.S, v.n, B.next, due, get B.ticks, rfl, b3, ok.geo.up rfl rfl rfl, ok.rack, f3, hd, nx.1, by omega, by show B.ticks.length ≤ 1000; omega, fun H4 sl4 rows4 b4 e5 R4 => ?_⟩
   refine ⟨_, rfl, ?_⟩
   rw [← e2] at k1
   refine k1 (by omega) hs H4 ⟨A, sl4, _, rfl, b4, ⟨ok.geo.up rfl rfl e5, ?_, (ok.out.setB (name := x) (due := due) (step := sp) (by omega) hs).rows rows4, ok.nn⟩, e1, rfl, ?_, ?_⟩
   · refine R4.congr fun k => ?_
     show gput (get B.ticks) B.next (some due) k = get (put B.ticks B.next due) k
     rw [Zw]
     rfl
   · rw [← e3]
     exact ok.out.wait_setB
   · rw [← e4]
     exact ok.out.rest_setB (due := due)
def VL (S n : Int) : Prop := (2 ≤ S ∧ S ≤ 64) ∧ 1 ≤ n ∧ n ≤ 6
def To (Bad : Addr) : Sp := fun vs H Q E => ∃ (S n : Int), vs = [.int S, .int n] ∧ Lg S ∧ Lg n ∧ (¬ VL S n → E (.ref Bad) none H) ∧ (VL S n → Q .non H)
theorem Uk : FnScope ["slots", "levels"] ["slots", "levels"] (Ze ZY) := Zr
theorem Ul (T : Txt K mg a) : FnOk P w K mg base (CXe P w) 1 a.f_check_wheels a.fd_check_wheels ["slots", "levels"] (To a.C_BadWheels) := by
 refine T.F_check_wheels.okE Uk (fun vs H Q E h => ?_) (fun cdv A' outer s H vs Q E hr h => ?_)
 · obtain ⟨S, n, rfl, _⟩ := h
   rfl
 · obtain ⟨S, n, rfl, l1, l2, k0, k1⟩ := h
   refine ⟨_, (Zg (YC (pw_or (Zy UV (pv 0) (Xi T.k_FEWEST_SLOTS) (ZG _)) (pw_or1 (Zy op_gt (pv 0) (Xi T.k_MOST_SLOTS) (ZG _)))).pt
       (Zi (XD rz_fn rfl rfl T.c_BadWheels T.x_BadWheels (Za (Vy (YW (Xv (Xi T.k_FEWEST_SLOTS) (YW (Xv (Xi T.k_MOST_SLOTS) (YW (Xv (pv 0) US))))))) Zf))) Yf)
     (Zi (YC (pw_or (Zy UV (pv 1) (Xi T.k_FEWEST_LEVELS) (ZG _)) (pw_or1 (Zy op_gt (pv 1) (Xi T.k_MOST_LEVELS) (ZG _)))).pt
       (Zi (XD rz_fn rfl rfl T.c_BadWheels T.x_BadWheels (Za (Vy (YW (Xv (Xi T.k_FEWEST_LEVELS) (YW (Xv (Xi T.k_MOST_LEVELS) (YW (Xv (pv 1) US))))))) Zf))) Yf))), ?_⟩
   have b2 : Lg 2 := by unfold Lg; decide
   have b64 : Lg 64 := by unfold Lg; decide
   have b1 : Lg 1 := by unfold Lg; decide
   have b6 : Lg 6 := by unfold Lg; decide
   have z1 : ∀ y : Str, [V.str y].length ≤ sizeLine := fun y => by show 1 ≤ sizeLine; decide
   refine ⟨_, rfl, _, _, rfl, rfl, _, rfl, ite2 (fun c => iteT ?_) (fun c => ?_)⟩
   · have c' : S < 2 := of_decide_eq_true c
     exact ⟨_, rfl, b2, _, rfl, b64, _, rfl, _, rfl, l1, fun y => ⟨z1 y, k0 fun z => by have := z.1.1; omega⟩⟩
   · have c' : ¬ S < 2 := fun z => c (decide_eq_true z)
     refine ⟨_, rfl, _, _, rfl, rfl, _, rfl, ite2 (fun d => ?_) (fun d => ?_)⟩
     · have d' : 64 < S := of_decide_eq_true d
       exact ⟨_, rfl, b2, _, rfl, b64, _, rfl, _, rfl, l1, fun y => ⟨z1 y, k0 fun z => by have := z.1.2; omega⟩⟩
     · have d' : ¬ 64 < S := fun z => d (decide_eq_true z)
       refine ⟨_, rfl, _, _, rfl, rfl, _, rfl, ite2 (fun e => iteT ?_) (fun e => ?_)⟩
       · have e' : n < 1 := of_decide_eq_true e
         exact ⟨_, rfl, b1, _, rfl, b6, _, rfl, _, rfl, l2, fun y => ⟨z1 y, k0 fun z => by have := z.2.1; omega⟩⟩
       · have e' : ¬ n < 1 := fun z => e (decide_eq_true z)
         refine ⟨_, rfl, _, _, rfl, rfl, _, rfl, ite2 (fun g => ?_) (fun g => ?_)⟩
         · have g' : 6 < n := of_decide_eq_true g
           exact ⟨_, rfl, b1, _, rfl, b6, _, rfl, _, rfl, l2, fun y => ⟨z1 y, k0 fun z => by have := z.2.2; omega⟩⟩
         · have g' : ¬ 6 < n := fun z => g (decide_eq_true z)
           exact k1 ⟨⟨by omega, by omega⟩, by omega, by omega⟩
def spSlotSpans : Sp := fun vs H Q _ => ∃ (S : Int) (n : Nat), vs = [.int S, .int n] ∧ 2 ≤ S ∧ S ≤ 64 ∧ 1 ≤ n ∧ n ≤ 6 ∧ ∀ (H' : Hp) (l : Addr), H l = none → Same H H' → H' l = some (.lst ((Zt S n).map V.int)) → Q (.ref l) H'
theorem sc_slot_spans : FnScope ["slots", "levels", "spans", "level"] ["slots", "levels"] (Ze Yq) := Zr
theorem UJ {S : Int} {n i : Nat} (h : i < n) : (Zt S n)[i]? = some (S ^ i) := by
 unfold Zt
 rw [List.getElem?_map, List.getElem?_range h]
 rfl
theorem UH {S : Int} {n : Nat} : Zt S (n + 1) = Zt S n ++ [S ^ n] := by
 unfold Zt
 rw [List.range_succ, List.map_append]
 rfl
theorem Tt (T : Txt K mg a) : FnOk P w K mg base (CXe P w) 1 a.f_slot_spans a.fd_slot_spans ["slots", "levels"] spSlotSpans := by
 refine T.F_slot_spans.okN sc_slot_spans (fun vs H Q E h => ?_) (fun cdv A' outer s H vs Q E hr h => ?_)
 · obtain ⟨S, n, rfl, _⟩ := h
   rfl
 · obtain ⟨S, n, rfl, h1, h2, h3, h4, k⟩ := h
   refine ⟨_, (Zg (Zs (i := 2) sc_slot_spans.nd rfl (Or.inl rfl) (YX (Za Zj Zf)))
     (Zg (XE PassesOwn.never rfl (pi_range2 rfl T.b_range (Za Zj (Za (pv 1) Zf))) (Ym (i := 3) sc_slot_spans.nd rfl (Or.inl rfl)) (Zi (ZK (UU F.plainAttrs_list F.slot_list_append F.type_list_append Vb (pv 2) (Za (Zm YY (YT Yw (pv 2) (Zm VT (pv 3) Zj) (fun _ _ => rfl)) (pv 0)) Zf)))))
     (Zi (ZA (pv 2))))), ?_⟩
   refine ⟨by decide, fun l hl => ?_⟩
   refine ⟨_, rfl, 1, n, rfl, ⟨by decide, by decide, by omega, by omega⟩, ?_⟩
   refine Vc (lo := 1) (n := ((n : Int) - 1).toNat) (fun i σ Hi => ∃ x, σ = [some (.int S), some (.int n), some (.ref l), x] ∧ Same H Hi ∧ Hi l = some (.lst ((Zt S (i + 1)).map V.int))) ⟨_, rfl, Same.upd hl, ?_⟩ ?_ ?_
   · rw [Zb]
     simp [Zt]
   · rintro i σ Hi hi ⟨x, rfl, s1, hi1⟩
     obtain ⟨p1, p2⟩ := Xd h1 h2 (i := i) (by omega)
     refine ⟨_, rfl, .inl ⟨rfl, _, SqL.of hi1⟩, _, rfl, _, rfl, _, _, rfl, rfl, _, _, _, .int (S ^ i), rfl, rfl, SqL.of hi1, ?_, ?_⟩
     · rw [show (1 + (i : Int)) - 1 = ((i : Nat) : Int) by omega]
       exact atI_nat (by rw [List.getElem?_map, UJ (by omega)]; rfl)
     · refine ⟨_, rfl, _, _, rfl, rfl, .inl ⟨by omega, Int.lt_of_le_of_lt p2 (by decide)⟩, ?_⟩
       refine ⟨_, _, _, rfl, rfl, hi1, Xe (by rw [List.length_map]; unfold Zt; rw [List.length_map, List.length_range]; omega), ?_⟩
       refine ⟨_, rfl, fun b o e => ?_, ?_⟩
       · rw [Zc (Zk e hl)]
         exact s1 b o e
       · rw [Zb, UH (n := i + 1), List.map_append, Int.pow_succ]
         rfl
   · rintro σ Hi ⟨x, rfl, s1, hi1⟩
     rw [show ((n : Int) - 1).toNat + 1 = n by omega] at hi1
     exact ⟨_, rfl, k Hi l hl s1 hi1⟩
def Sh (c : Cl) (Bad : Addr) : Sp := fun vs H Q E => ∃ (p dx : Addr) (S n : Int), vs = [.ref p, .int S, .int n] ∧ Lg S ∧ Lg n ∧ H p = some (.ins c.Wheels dx []) ∧ (¬ VL S n → E (.ref Bad) none H) ∧
 (VL S n → ∀ (H' : Hp) (tp : Addr), H tp = none → H' p = some (.ins c.Wheels dx (Yx S tp)) → H' tp = some (.tup ((Zt S n.toNat).map V.int)) → (∀ b o, H b = some o → b ≠ p → H' b = some o) → Q .non H')
theorem UM : FnScope ["self", "slots", "levels"] ["self", "slots", "levels"] (Ze ZH) := Zr
theorem UY (T : Txt K mg a) : FnOk P w K mg base (CXe P w) 2 a.f_Wheels___init__ a.fd_Wheels___init__ ["self", "slots", "levels"] (Sh (clOf a) a.C_BadWheels) := by
 have G_check_wheels := Ul (P := P) (w := w) (base := base) T
 have G_slot_spans := Tt (P := P) (w := w) (base := base) T
 refine T.F_Wheels___init__.okE UM (fun vs H Q E h => ?_) (fun cdv A' outer s H vs Q E hr h => ?_)
 · obtain ⟨p, dx, S, n, rfl, _⟩ := h
   rfl
 · obtain ⟨p, dx, S, n, rfl, l1, l2, hp, k0, k1⟩ := h
   refine ⟨_, (Zg (ZK (Zu G_check_wheels (hr.mono (by decide)) rfl T.f_check_wheels T.kp_check_wheels T.B_check_wheels .nil TK (Za (pv 1) (Za (pv 2) Zf))))
     (Zg (Yo (pv 0) (pv 1) rfl)
     (Zi (Yo (pv 0) (VS TB rfl T.b_tuple PyProof.Rows.boot_tuple (Za (Zu G_slot_spans (hr.mono (by decide)) rfl T.f_slot_spans T.kp_slot_spans T.B_slot_spans .nil ZC (Za (pv 1) (Za (pv 2) Zf))) Zf)) rfl)))), ?_⟩
   refine ⟨_, rfl, _, rfl, S, n, rfl, l1, l2, k0, fun g => ?_⟩
   obtain ⟨⟨g1, g2⟩, g3, g4⟩ := id g
   refine ⟨_, rfl, _, rfl, p, _, dx, [], rfl, hp, T.cl_Wheels, T.n_Wheels_slots, (by show 0 < 1000; decide), ?_⟩
   have en : ((n.toNat : Nat) : Int) = n := by omega
   refine ⟨_, rfl, _, rfl, S, n.toNat, (by rw [en]; rfl), g1, g2, by omega, by omega, fun H1 l hl s1 hl1 => ?_⟩
   have npl : p ≠ l := fun z => by rw [← z, Zb] at hl; cases hl
   have hp1 := s1 p _ Zb
   refine ⟨_, _, rfl, .inl ⟨SqL.of hl1, fun tp htp => ?_⟩⟩
   have htp0 : H tp = none := by
     have q : (upd H p (.ins a.C_Wheels dx (putF "slots" (.int S) []))) tp = none := s1.free htp
     rw [Zc (fun z => by rw [z, Zb] at q; cases q)] at q
     exact q
   have npt : p ≠ tp := fun z => by rw [← z, hp1] at htp; cases htp
   refine ⟨_, rfl, p, _, dx, _, rfl, (by rw [Zc npt]; exact hp1), T.cl_Wheels, T.n_Wheels_spans, (by show 1 < 1000; decide), ?_⟩
   refine k1 g _ tp htp0 Zb ?_ fun b o e hb => ?_
   · rw [Zc npt.symm, Zb]
   · rw [Zc hb, Zc (fun z => by rw [z, htp0] at e; cases e)]
     exact s1 b o (by rw [Zc hb]; exact e)
end Tk
end
section
namespace Tb
open PySem L2 Mir Rk
structure Pt (ad : Lb → Addr) (H0 H : Hp) (ct : Lb → Option HO) : Prop where
 same : Same H0 H
 free : ∀ l o, ct l = some o → H0 (ad l) = none
 here : ∀ l o, ct l = some o → H (ad l) = some o
 inj : ∀ l l' o o', ct l = some o → ct l' = some o' → ad l = ad l' → l = l'
def lput {α : Type} (f : Lb → α) (l : Lb) (x : α) : Lb → α := fun l' => if l' = l then x else f l'
theorem Zh {α : Type} {f : Lb → α} {l : Lb} {x : α} : lput f l x l = x := by simp [lput]
theorem Zd {α : Type} {f : Lb → α} {l l' : Lb} {x : α} (h : l' ≠ l) : lput f l x l' = f l' := by simp [lput, h]
section
variable {ad : Lb → Addr} {H0 H H' : Hp} {ct : Lb → Option HO}
theorem Pt.up (p : Pt ad H0 H ct) (s : Same H H') : Pt ad H0 H' ct := ⟨p.same.trans s, p.free, fun l o h => s _ _ (p.here l o h), p.inj⟩
theorem Pt.add (p : Pt ad H0 H ct) {l : Lb} {x : Addr} {o : HO} (hl : ct l = none) (hx : H x = none) (s : Same H H') (ho : H' x = some o) : Pt (lput ad l x) H0 H' (lput ct l (some o)) := by
 have ne : ∀ l' u, ct l' = some u → l' ≠ l := fun l' u h z => by rw [z, hl] at h; cases h
 have nx : ∀ l' u, ct l' = some u → ad l' ≠ x := fun l' u h z => by have := p.here l' u h; rw [z, hx] at this; cases this
 refine ⟨p.same.trans s, fun l' u h => ?_, fun l' u h => ?_, fun l1 l2 o1 o2 h1 h2 z => ?_⟩
 · by_cases e : l' = l
   · subst e
     rw [Zh]
     exact p.same.free hx
   · rw [Zd e] at h ⊢
     exact p.free l' u h
 · by_cases e : l' = l
   · subst e
     rw [Zh] at h ⊢
     cases h
     exact ho
   · rw [Zd e] at h ⊢
     exact s _ _ (p.here l' u h)
 · by_cases e1 : l1 = l
   · by_cases e2 : l2 = l
     · rw [e1, e2]
     · subst e1
       rw [Zd e2] at h2
       rw [Zh, Zd e2] at z
       exact (nx l2 o2 h2 z.symm).elim
   · rw [Zd e1] at h1 z
     by_cases e2 : l2 = l
     · subst e2
       rw [Zh] at z
       exact (nx l1 o1 h1 z).elim
     · rw [Zd e2] at h2 z
       exact p.inj l1 l2 o1 o2 h1 h2 z
theorem Pt.write (p : Pt ad H0 H ct) {l : Lb} {o o' : HO} (hl : ct l = some o) : Pt ad H0 (upd H (ad l) o') (lput ct l (some o')) := by
 have back : ∀ l' u, lput ct l (some o') l' = some u → ∃ v, ct l' = some v := fun l' u h => by
   by_cases e : l' = l
   · exact ⟨o, e ▸ hl⟩
   · rw [Zd e] at h; exact ⟨u, h⟩
 refine ⟨fun x u h => ?_, fun l' u h => ?_, fun l' u h => ?_, fun l1 l2 o1 o2 h1 h2 z => ?_⟩
 · have := p.free l o hl
   rw [Zc (fun z => by rw [z, this] at h; cases h)]
   exact p.same x u h
 · obtain ⟨v, hv⟩ := back l' u h
   exact p.free l' v hv
 · by_cases e : l' = l
   · subst e
     rw [Zh] at h
     cases h
     exact Zb
   · rw [Zd e] at h
     rw [Zc (fun z => e (p.inj l' l u o h hl z))]
     exact p.here l' u h
 · obtain ⟨v1, hv1⟩ := back l1 o1 h1
   obtain ⟨v2, hv2⟩ := back l2 o2 h2
   exact p.inj l1 l2 v1 v2 hv1 hv2 z
theorem Pt.own {x : Addr} {o : HO} (s : Same H0 H) (h0 : H0 x = none) (hx : H x = some o) (l : Lb) : Pt (fun _ => x) H0 H (lput (fun _ => none) l (some o)) := by
 have at_ : ∀ l' u, lput (fun _ => none) l (some o) l' = some u → l' = l ∧ u = o := fun l' u h => by
   by_cases e : l' = l
   · subst e
     rw [Zh] at h
     cases h
     exact ⟨rfl, rfl⟩
   · rw [Zd e] at h
     cases h
 refine ⟨s, fun _ _ _ => h0, fun l' u h => ?_, fun l1 l2 o1 o2 h1 h2 _ => ?_⟩
 · obtain ⟨_, rfl⟩ := at_ l' u h
   exact hx
 · rw [(at_ l1 o1 h1).1, (at_ l2 o2 h2).1]
theorem Pt.adopt {x : Addr} {o : HO} (p : Pt ad (upd H0 x o) H ct) {l : Lb} (h0 : H0 x = none) (hl : ct l = none) : Pt (lput ad l x) H0 H (lput ct l (some o)) := by
 have nx : ∀ l' u, ct l' = some u → ad l' ≠ x := fun l' u h z => by have := p.free l' u h; rw [z, Zb] at this; cases this
 refine ⟨(Same.upd h0).trans p.same, fun l' u h => ?_, fun l' u h => ?_, fun l1 l2 o1 o2 h1 h2 z => ?_⟩
 · by_cases e : l' = l
   · subst e
     rw [Zh]
     exact h0
   · rw [Zd e] at h ⊢
     have := p.free l' u h
     rw [Zc (nx l' u h)] at this
     exact this
 · by_cases e : l' = l
   · subst e
     rw [Zh] at h ⊢
     cases h
     exact p.same _ _ Zb
   · rw [Zd e] at h ⊢
     exact p.here l' u h
 · by_cases e1 : l1 = l
   · by_cases e2 : l2 = l
     · rw [e1, e2]
     · subst e1
       rw [Zd e2] at h2
       rw [Zh, Zd e2] at z
       exact (nx l2 o2 h2 z.symm).elim
   · rw [Zd e1] at h1 z
     by_cases e2 : l2 = l
     · subst e2
       rw [Zh] at z
       exact (nx l1 o1 h1 z).elim
     · rw [Zd e2] at h2 z
       exact p.inj l1 l2 o1 o2 h1 h2 z
theorem Pt.congr {ct' : Lb → Option HO} (p : Pt ad H0 H ct) (h : ∀ l, ct l = ct' l) : Pt ad H0 H ct' := by
 have : ct = ct' := funext h
 exact this ▸ p
theorem Pt.side (p : Pt ad H0 H ct) {x : Addr} {o : HO} (h0 : H0 x = none) (hx : ∀ l u, ct l = some u → ad l ≠ x) : Pt ad H0 (upd H x o) ct :=
 ⟨fun y u h => by rw [Zc (Zk h h0)]; exact p.same y u h, p.free, fun l u h => by rw [Zc (hx l u h)]; exact p.here l u h, p.inj⟩
def ctRk (c : Cl) (ad dx : Lb → Addr) (F : List (Str × V)) (S : Int) (sp : List Int) (m : Nat) (rl : Bool) : Lb → Option HO
 | .rack => some (.ins c.Rack (dx .rack) F)
 | .wheels => some (.ins c.Wheels (dx .wheels) (Yx S (ad .spans)))
 | .spans => some (.tup (sp.map V.int))
 | .row i => if i < m then some (.ins c.Row (dx (.row i)) (rowF (S ^ i) (ad (.filled i)) (ad (.rising i)))) else none
 | .filled i => if i < m then some (.dK []) else none
 | .rising i => if i < m then some (.lst []) else none
 | .rows => if rl = true then some (.lst ((List.range m).map fun i => V.ref (ad (.row i)))) else none
 | _ => none
theorem Pt.addRow {c : Cl} {dx : Lb → Addr} {F : List (Str × V)} {S : Int} {sp : List Int} {m : Nat} (p : Pt ad H0 H (ctRk c ad dx F S sp m false)) {x d df lr : Addr} (hx : H x = none) (hd : d ≠ x) (hdf : H df = none) (hlr : H lr = none) (n1 : df ≠ x) (n2 : lr ≠ x) (n3 : df ≠ lr)
   (s : Same H H') (h1 : H' x = some (.ins c.Row d (rowF (S ^ m) df lr))) (h2 : H' df = some (.dK [])) (h3 : H' lr = some (.lst [])) :
   Pt (lput (lput (lput ad (.row m) x) (.filled m) df) (.rising m) lr) H0 H' (ctRk c (lput (lput (lput ad (.row m) x) (.filled m) df) (.rising m) lr) (lput dx (.row m) d) F S sp (m + 1) false) := by
 have sa : Same H (upd H x (.ins c.Row d (rowF (S ^ m) df lr))) := Same.upd hx
 have hdf1 : (upd H x (.ins c.Row d (rowF (S ^ m) df lr))) df = none := by rw [Zc n1]; exact hdf
 have sb := Same.upd (o := .dK []) hdf1
 have hlr1 : (upd (upd H x (.ins c.Row d (rowF (S ^ m) df lr))) df (.dK [])) lr = none := by rw [Zc n3.symm, Zc n2]; exact hlr
 have sc : Same (upd (upd H x (.ins c.Row d (rowF (S ^ m) df lr))) df (.dK [])) H' := fun y u h => by
   by_cases e1 : y = df
   · subst e1
     rw [Zb] at h
     cases h
     exact h2
   · rw [Zc e1] at h
     by_cases e2 : y = x
     · subst e2
       rw [Zb] at h
       cases h
       exact h1
     · rw [Zc e2] at h
       exact s y u h
 have q1 := p.add (l := .row m) (x := x) (by show (if m < m then _ else _) = _; rw [if_neg (Nat.lt_irrefl _)]) hx sa Zb
 have q2 := q1.add (l := .filled m) (x := df) (by rw [Zd (by intro z; cases z)]; show (if m < m then _ else _) = _; rw [if_neg (Nat.lt_irrefl _)]) hdf1 sb Zb
 have q3 := q2.add (l := .rising m) (x := lr) (by rw [Zd (by intro z; cases z), Zd (by intro z; cases z)]; show (if m < m then _ else _) = _; rw [if_neg (Nat.lt_irrefl _)]) hlr1 sc h3
 refine q3.congr fun l => ?_
 cases l with
 | row i =>
   rw [Zd (by intro z; cases z), Zd (by intro z; cases z)]
   by_cases e : i = m
   · subst e
     rw [Zh]
     show _ = if i < i + 1 then _ else _
     rw [if_pos (Nat.lt_succ_self _), Zh, Zd (by intro z; cases z), Zh, Zh]
   · have e1 : Lb.row i ≠ .row m := fun z => e (by injection z)
     rw [Zd e1]
     show (if i < m then _ else _) = if i < m + 1 then _ else _
     by_cases hi : i < m
     · have f1 : Lb.filled i ≠ .filled m := fun z => e (by injection z)
       have f2 : Lb.rising i ≠ .rising m := fun z => e (by injection z)
       rw [if_pos hi, if_pos (Nat.lt_succ_of_lt hi), Zd e1, Zd (by intro z; cases z), Zd f1, Zd (by intro z; cases z), Zd f2, Zd (by intro z; cases z), Zd (by intro z; cases z)]
     · rw [if_neg hi, if_neg (by omega)]
 | filled i =>
   rw [Zd (by intro z; cases z)]
   by_cases e : i = m
   · subst e
     rw [Zh]
     show _ = if i < i + 1 then _ else _
     rw [if_pos (Nat.lt_succ_self _)]
   · have e1 : Lb.filled i ≠ .filled m := fun z => e (by injection z)
     rw [Zd e1, Zd (by intro z; cases z)]
     show (if i < m then _ else _) = if i < m + 1 then _ else _
     by_cases hi : i < m
     · rw [if_pos hi, if_pos (Nat.lt_succ_of_lt hi)]
     · rw [if_neg hi, if_neg (by omega)]
 | rising i =>
   by_cases e : i = m
   · subst e
     rw [Zh]
     show _ = if i < i + 1 then _ else _
     rw [if_pos (Nat.lt_succ_self _)]
   · have e1 : Lb.rising i ≠ .rising m := fun z => e (by injection z)
     rw [Zd e1, Zd (by intro z; cases z), Zd (by intro z; cases z)]
     show (if i < m then _ else _) = if i < m + 1 then _ else _
     by_cases hi : i < m
     · rw [if_pos hi, if_pos (Nat.lt_succ_of_lt hi)]
     · rw [if_neg hi, if_neg (by omega)]
 | rack =>
   rw [Zd (by intro z; cases z), Zd (by intro z; cases z), Zd (by intro z; cases z)]
   show some (HO.ins c.Rack (dx .rack) F) = some (HO.ins c.Rack (lput dx (.row m) d .rack) F)
   rw [Zd (by intro z; cases z)]
 | wheels =>
   rw [Zd (by intro z; cases z), Zd (by intro z; cases z), Zd (by intro z; cases z)]
   show some (HO.ins c.Wheels (dx .wheels) (Yx S (ad .spans))) = some (HO.ins c.Wheels (lput dx (.row m) d .wheels) (Yx S (lput (lput (lput ad (.row m) x) (.filled m) df) (.rising m) lr .spans)))
   rw [Zd (by intro z; cases z), Zd (by intro z; cases z), Zd (by intro z; cases z), Zd (by intro z; cases z)]
 | spans => rfl
 | rows => rfl
 | book => rfl
 | names => rfl
 | steps => rfl
 | ticks => rfl
 | kept => rfl
 | slot i s => rfl
end
end Tb
end
section
namespace Tk
open PySem L2 Mir Rk Tb
open PyProof.Rows (boot_sorted boot_min boot_enumerate boot_isinstance boot_sum boot_max)
variable {P : Program} {w : World} {K : W.Frag} {mg : Str → Option Value} {base : Heap} {a : Ad}
def spRackInit (c : Cl) (Bad : Addr) : Sp := fun vs H Q E => ∃ (H0 : Hp) (p dxp : Addr) (S n : Int), vs = [.ref p, .int S, .int n] ∧ Lg S ∧ Lg n ∧ Same H0 H ∧ H0 p = none ∧ H p = some (.ins c.Rack dxp []) ∧ (¬ VL S n → ∀ H', Same H0 H' → E (.ref Bad) none H') ∧
 (VL S n → ∀ (H' : Hp) (ad dx : Lb → Addr), ad .rack = p → Pt ad H0 H' (ctRk c ad dx (UO (ad .wheels) (ad .rows)) S (Zt S n.toNat) (n.toNat + 1) true) → Q .non H')
theorem sc_Rack_init : FnScope ["self", "slots", "levels", "spans"] ["self", "slots", "levels"] (Ze ZT) := Zr
theorem Sz (T : Txt K mg a) : FnOk P w K mg base (CXe P w) 4 a.f_Rack___init__ a.fd_Rack___init__ ["self", "slots", "levels"] (spRackInit (clOf a) a.C_BadWheels) := by
 have G_Wheels := UY (P := P) (w := w) (base := base) T
 have G_Row := ok_Row_init (P := P) (w := w) (base := base) T
 refine T.F_Rack___init__.okE sc_Rack_init (fun vs H Q E h => ?_) (fun cdv A' outer s H vs Q E hr h => ?_)
 · obtain ⟨H0, p, dxp, S, n, rfl, _⟩ := h
   rfl
 · obtain ⟨H0, p, dxp, S, n, rfl, l1, l2, s0, h0, hp, k0, k1⟩ := h
   refine ⟨_, (Zg (Yo (pv 0) (Vx T.M_Wheels G_Wheels (hr.mono (by decide)) rfl T.c_Wheels T.B_Wheels___init__ .nil TK (Za (pv 1) (Za (pv 2) Zf))) rfl)
     (Zg (Zs (i := 3) sc_Rack_init.nd rfl (Or.inl rfl) (VS SH rfl T.b_list PyProof.Rows.boot_list (Za (Zp (Zp (pv 0) rfl) rfl) Zf)))
     (Zg (ZK (UU F.plainAttrs_list F.slot_list_append F.type_list_append Vb (pv 3) (Za (Zm YY (YT Yw (pv 3) (Zm VT (pv 2) Zj) (fun _ _ => rfl)) (pv 1)) Zf)))
     (Zi (Yo (pv 0) (VA (te := tMake a.C_Row (TD (clOf a)) [] E0 (UE (tVar 0) tNil)) (NB := ["span"]) (fv := [none]) (jx := 0) rfl (compOk_fnE rfl rfl (by decide +kernel)) (Va (pv 3)) rfl rfl rfl (fun _ _ _ => UR) (fun _ _ _ => Vx T.M_Row G_Row (hr.mono (by decide)) rfl T.c_Row T.B_Row___init__ .nil ZC (Za (pv 0) Zf))) rfl))))), ?_⟩
   refine ⟨_, rfl, _, rfl, fun x dx' hx hdx nx => ?_⟩
   have sA : Same H (upd (upd H dx' (.own x)) x (.ins a.C_Wheels dx' [])) := fun b o e => by
     rw [Zc (Zk e hx), Zc (Zk e hdx)]
     exact e
   refine ⟨x, dx', S, n, rfl, l1, l2, Zb, fun hb => k0 hb _ (s0.trans sA), fun g H1 tp htp e1 e2 e3 => ⟨rfl, ?_⟩⟩
   obtain ⟨⟨g1, g2⟩, g3, g4⟩ := id g
   have s1 : Same H H1 := fun b o e => e3 b o (sA b o e) (Zk e hx)
   have htpx : tp ≠ x := fun z => by rw [z, Zb] at htp; cases htp
   have htp0 : H tp = none := sA.free htp
   have en : ((n.toNat : Nat) : Int) = n := by omega
   have P0 := Pt.own s0 h0 hp .rack
   have P1 := P0.add (l := .wheels) (x := x) (o := .ins a.C_Wheels dx' (Yx S tp)) (Zd (by intro z; cases z)) hx (Same.upd hx) Zb
   have P2 := P1.add (H' := H1) (l := .spans) (x := tp) (o := .tup ((Zt S n.toNat).map V.int)) (by rw [Zd (by intro z; cases z), Zd (by intro z; cases z)]) (by rw [Zc htpx]; exact htp0) (fun y u h => by
     by_cases e : y = x
     · subst e
       rw [Zb] at h
       cases h
       exact e1
     · rw [Zc e] at h
       exact s1 y u h) e2
   have hp1 : H1 p = some (.ins a.C_Rack dxp []) := s1 _ _ hp
   refine ⟨_, rfl, p, _, dxp, _, rfl, hp1, T.cl_Rack, T.n_Rack_wheels, (by show 0 < 1000; decide), ?_⟩
   have P3 := P2.write (l := .rack) (o := .ins a.C_Rack dxp []) (o' := .ins a.C_Rack dxp [("wheels", .ref x)]) (by rw [Zd (by intro z; cases z), Zd (by intro z; cases z), Zh])
   have P3' : Pt (lput (lput (fun _ => p) .wheels x) .spans tp) H0 (upd H1 p (.ins a.C_Rack dxp [("wheels", .ref x)])) (ctRk (clOf a) (lput (lput (fun _ => p) .wheels x) .spans tp) (lput (fun _ => dx') .rack dxp) [("wheels", .ref x)] S (Zt S n.toNat) 0 false) := by
     refine P3.congr fun l => ?_
     cases l with
     | rack => rfl
     | wheels => rfl
     | spans => rfl
     | row i => rfl
     | filled i => rfl
     | rising i => rfl
     | rows => rfl
     | book => rfl
     | names => rfl
     | steps => rfl
     | ticks => rfl
     | kept => rfl
     | slot i s => rfl
   have hpR := P3'.here .rack _ rfl
   have hpW := P3'.here .wheels _ rfl
   have hpS := P3'.here .spans _ rfl
   refine ⟨_, rfl, _, _, _, _, _, rfl, hpR, T.cl_Rack, T.n_Rack_wheels, rfl, _, _, _, _, _, rfl, hpW, T.cl_Wheels, T.n_Wheels_spans, rfl, _, _, rfl, .inr (SqT.of hpS), fun ls hls => ?_⟩
   have P4 := P3'.up (Same.upd (o := .lst ((Zt S n.toNat).map V.int)) hls)
   have hn0 : ∀ l u, ctRk (clOf a) (lput (lput (fun _ => p) .wheels x) .spans tp) (lput (fun _ => dx') .rack dxp) [("wheels", .ref x)] S (Zt S n.toNat) 0 false l = some u → (lput (lput (fun _ => p) .wheels x) .spans tp) l ≠ ls := fun l u h z => by
     have q := P3'.here l u h
     have hls' : upd H1 p (HO.ins a.C_Rack dxp [("wheels", .ref x)]) ls = none := hls
     rw [z, hls'] at q
     cases q
   obtain ⟨p1, p2⟩ := Xd g1 g2 (i := n.toNat - 1) (by omega)
   refine ⟨_, rfl, .inl ⟨rfl, _, SqL.of Zb⟩, _, rfl, _, rfl, _, _, rfl, rfl, _, _, _, .int (S ^ (n.toNat - 1)), rfl, rfl, SqL.of Zb, ?_, _, rfl, _, _, rfl, rfl, .inl ⟨by omega, Int.lt_of_le_of_lt p2 (by decide)⟩, ?_⟩
   · rw [show n - 1 = ((n.toNat - 1 : Nat) : Int) by omega]
     exact atI_nat (by rw [List.getElem?_map, UJ (by omega)]; rfl)
   · refine ⟨_, _, _, rfl, rfl, Zb, Xe (by rw [List.length_map]; unfold Zt; rw [List.length_map, List.length_range]; omega), ?_⟩
     have eL : (Zt S n.toNat).map V.int ++ [V.int (S ^ (n.toNat - 1) * S)] = (Zt S (n.toNat + 1)).map V.int := by
       rw [UH, List.map_append, ← Int.pow_succ, show (n.toNat - 1).succ = n.toNat by omega]
       rfl
     rw [show (fun i j => V.int (i * j)) (S ^ (n.toNat - 1)) S = V.int (S ^ (n.toNat - 1) * S) from rfl, eL]
     have hls0 : H0 ls = none := P3'.same.free hls
     have P5 := P4.side (x := ls) (o := .lst ((Zt S (n.toNat + 1)).map V.int)) hls0 hn0
     have lenS : ((Zt S (n.toNat + 1)).map V.int).length = n.toNat + 1 := by rw [List.length_map]; unfold Zt; rw [List.length_map, List.length_range]
     refine ⟨_, rfl, _, rfl, ⟨_, SqL.of Zb⟩, ?_⟩
     refine TX (K := K) (a := ls) (xs := (Zt S (n.toNat + 1)).map V.int) (fun i ys Hi => ∃ ad dx, ad .rack = p ∧ ad .wheels = x ∧ Pt ad H0 Hi (ctRk (clOf a) ad dx [("wheels", .ref x)] S (Zt S n.toNat) i false) ∧ ys = (List.range i).map (fun j => V.ref (ad (.row j))) ∧ Hi ls = some (.lst ((Zt S (n.toNat + 1)).map V.int)))
       ⟨_, _, rfl, rfl, P5, rfl, Zb⟩ (fun i ys Hi hi ⟨ad, dx, _, _, _, ey, hl⟩ => ⟨SqL.of hl, by rw [ey, List.length_map, List.length_range]; exact Xe (by omega)⟩) ?_ ?_
     · rintro i v ys Hi Q' hv ⟨ad, dx, ea1, ea2, Pi, rfl, hl⟩ kq
       have hi : i < n.toNat + 1 := by have := (List.getElem?_eq_some_iff.mp hv).1; omega
       have ev : v = V.int (S ^ i) := by
         rw [List.getElem?_map, UJ hi] at hv
         exact (Option.some.inj hv).symm
       subst ev
       refine ⟨_, rfl, fun xr dr hxr hdr nr => ⟨xr, dr, S ^ i, rfl, Zb, fun df lr H2 hdf hlr nfl f1 f2 f3 f4 => ⟨rfl, kq _ _ ?_⟩⟩⟩
       have sB : Same Hi (upd (upd Hi dr (.own xr)) xr (.ins a.C_Row dr [])) := fun b o e => by
         rw [Zc (Zk e hxr), Zc (Zk e hdr)]
         exact e
       have s2 : Same Hi H2 := fun b o e => f4 b o (sB b o e) (Zk e hxr)
       have ndf : df ≠ xr := fun z => by rw [z, Zb] at hdf; cases hdf
       have nlr : lr ≠ xr := fun z => by rw [z, Zb] at hlr; cases hlr
       have P6 := Pi.addRow hxr nr (sB.free hdf) (sB.free hlr) ndf nlr nfl s2 f1 f2 f3
       refine ⟨_, _, ?_, ?_, P6, ?_, s2 _ _ hl⟩
       · rw [Zd (by intro z; cases z), Zd (by intro z; cases z), Zd (by intro z; cases z)]; exact ea1
       · rw [Zd (by intro z; cases z), Zd (by intro z; cases z), Zd (by intro z; cases z)]; exact ea2
       · rw [List.range_succ, List.map_append]
         congr 1
         · apply List.map_congr_left
           intro j hj
           have hj' := List.mem_range.mp hj
           have e1 : Lb.row j ≠ .row i := fun z => by injection z with z; omega
           rw [Zd (by intro z; cases z), Zd (by intro z; cases z), Zd e1]
         · show [V.ref xr] = [V.ref _]
           rw [Zd (by intro z; cases z), Zd (by intro z; cases z), Zh]
     · rintro ys Hi ⟨ad, dx, ea1, ea2, Pi, rfl, hl⟩ acc hacc
       rw [lenS] at Pi ⊢
       have P7 := Pi.add (l := .rows) (x := acc) (o := .lst ((List.range (n.toNat + 1)).map (fun j => V.ref (ad (.row j))))) rfl hacc (Same.upd hacc) Zb
       have hr7 := P7.here .rack _ (by rw [Zd (by intro z; cases z)]; rfl)
       rw [Zd (by intro z; cases z), ea1] at hr7
       refine ⟨_, rfl, p, _, _, _, rfl, hr7, T.cl_Rack, T.n_Rack_rows, (by show 1 < 1000; decide), ?_⟩
       have P8 := P7.write (l := .rack) (o' := .ins a.C_Rack (dx .rack) (UO x acc)) (by rw [Zd (by intro z; cases z)]; rfl)
       refine k1 g _ (lput ad .rows acc) dx (by rw [Zd (by intro z; cases z)]; exact ea1) ?_
       rw [Zd (by intro z; cases z), ea1] at P8
       refine P8.congr fun l => ?_
       cases l with
       | rack =>
         rw [Zh]
         show _ = some (HO.ins a.C_Rack (dx .rack) (UO (lput ad .rows acc .wheels) (lput ad .rows acc .rows)))
         rw [Zd (by intro z; cases z), Zh, ea2]
       | wheels =>
         rw [Zd (by intro z; cases z), Zd (by intro z; cases z)]
         show some (HO.ins a.C_Wheels (dx .wheels) (Yx S (ad .spans))) = some (HO.ins a.C_Wheels (dx .wheels) (Yx S (lput ad .rows acc .spans)))
         rw [Zd (by intro z; cases z)]
       | spans => rfl
       | row i =>
         rw [Zd (by intro z; cases z), Zd (by intro z; cases z)]
         show (if i < _ then _ else _) = if i < _ then some (HO.ins a.C_Row (dx (.row i)) (rowF (S ^ i) (lput ad .rows acc (.filled i)) (lput ad .rows acc (.rising i)))) else none
         rw [Zd (by intro z; cases z), Zd (by intro z; cases z)]
       | filled i => rfl
       | rising i => rfl
       | rows =>
         rw [Zd (by intro z; cases z), Zh]
         show _ = some (HO.lst ((List.range (n.toNat + 1)).map fun i => V.ref (lput ad .rows acc (.row i))))
         congr 2
       | book => rfl
       | names => rfl
       | steps => rfl
       | ticks => rfl
       | kept => rfl
       | slot i s => rfl
def newB (S : Int) (n : Nat) : BkS := ⟨S, Zt S n, (List.range (n + 1)).map fun i => ⟨S ^ i, [], []⟩, 0, 0, [], [], [], []⟩
theorem Xr {S : Int} {n i : Nat} : (newB S n).rows[i]? = if i < n + 1 then some ⟨S ^ i, [], []⟩ else none := by
 show ((List.range (n + 1)).map fun i => (⟨S ^ i, [], []⟩ : RowS))[i]? = _
 rw [List.getElem?_map]
 by_cases h : i < n + 1
 · rw [List.getElem?_range h, if_pos h]
   rfl
 · rw [if_neg h, List.getElem?_eq_none (by rw [List.length_range]; omega)]
   rfl
theorem newB_ok {S : Int} {n : Nat} (h1 : 2 ≤ S) (h2 : S ≤ 64) (h3 : 1 ≤ n) (h4 : n ≤ 6) : BOK S n (newB S n) where
 geo := ⟨h1, h2, h3, h4, rfl, rfl, by show ((List.range (n + 1)).map _).length = _; rw [List.length_map, List.length_range]⟩
 rack := by
   have at_ : ∀ (i : Nat) r, (newB S n).rows[i]? = some r → r = ⟨S ^ i, [], []⟩ := fun i r e => by
     rw [Xr] at e
     by_cases h : i < n + 1
     · rw [if_pos h] at e; exact (Option.some.inj e).symm
     · rw [if_neg h] at e; cases e
   refine ⟨h1, by show ((List.range (n + 1)).map _).length = _; rw [List.length_map, List.length_range], fun i r e => by rw [at_ i r e], fun i r e => ?_, (fun k t e => by cases e), (fun k t e => by cases e)⟩
   rw [at_ i r e]
   refine ⟨Rk.pow_pos (by omega) i, List.nodup_nil, List.Pairwise.nil, (fun s => ⟨(fun h => by simp at h), (fun h => by cases h)⟩), (fun s ns h => by cases h), (fun s ns h => by cases h), (fun m s => ⟨(fun ⟨ns, h, _⟩ => by cases h), (fun ⟨t, h, _⟩ => by cases h)⟩)⟩
 out := ⟨List.nodup_nil, List.nodup_nil, List.nodup_nil, List.nodup_nil, ⟨Int.le_refl _, by show (0 : Int) ≤ 63; decide⟩, (fun k h => by cases h), (fun k => rfl), (fun k => rfl), (fun k s h => by cases h), (fun k h => by cases h), (fun k t h => by cases h)⟩
 nn := Int.le_refl _
theorem bk_of {c : Cl} {ad dx : Lb → Addr} {sl : Sl} {H0 H : Hp} {B : BkS} (p : Pt ad H0 H (cont c ⟨ad, dx⟩ sl B)) (hs : ∀ i s, cont c ⟨ad, dx⟩ sl B (.slot i s) = none) : Bk c ⟨ad, dx⟩ sl H0 H B := by
 have e : ∀ l o, cont c ⟨ad, dx⟩ sl B l = some o → loc ⟨ad, dx⟩ sl l = ad l := fun l o h => by
   cases l with
   | slot i s => rw [hs i s] at h; cases h
   | _ => rfl
 exact ⟨p.same, fun l o h => by rw [e l o h]; exact p.free l o h, fun l o h => by rw [e l o h]; exact p.here l o h, fun l1 l2 o1 o2 h1 h2 z => by rw [e l1 o1 h1, e l2 o2 h2] at z; exact p.inj l1 l2 o1 o2 h1 h2 z⟩
abbrev newV (S : Int) (n : Nat) : Vw := ⟨S, n, 0, 0, fun _ => none, fun _ => none⟩
def spBookInit (c : Cl) (Bad : Addr) : Sp := fun vs H Q E => ∃ (H0 : Hp) (p dxp : Addr) (S n : Int), vs = [.ref p, .int S, .int n] ∧ Lg S ∧ Lg n ∧ Same H0 H ∧ H0 p = none ∧ H p = some (.ins c.Book dxp []) ∧ (¬ VL S n → ∀ H', Same H0 H' → E (.ref Bad) none H') ∧
 (VL S n → ∀ (H' : Hp), BookAt c H0 H' p (newV S n.toNat) → Q .non H')
theorem Sq : FnScope ["self", "slots", "levels"] ["self", "slots", "levels"] (Ze ZU) := Zr
theorem SA (T : Txt K mg a) : FnOk P w K mg base (CXe P w) 6 a.f_Book___init__ a.fd_Book___init__ ["self", "slots", "levels"] (spBookInit (clOf a) a.C_BadWheels) := by
 have G_Rack := Sz (P := P) (w := w) (base := base) T
 refine T.F_Book___init__.okE Sq (fun vs H Q E h => ?_) (fun cdv A' outer s H vs Q E hr h => ?_)
 · obtain ⟨H0, p, dxp, S, n, rfl, _⟩ := h
   rfl
 · obtain ⟨H0, p, dxp, S, n, rfl, l1, l2, s0, h0, hp, k0, k1⟩ := h
   refine ⟨_, (Zg (Yo (pv 0) (Vx T.M_Rack G_Rack (hr.mono (by decide)) rfl T.c_Rack T.B_Rack___init__ .nil TK (Za (pv 1) (Za (pv 2) Zf))) rfl)
     (Zg (Yo (pv 0) Zj rfl)
     (Zg (Yo (pv 0) Zj rfl)
     (Zg (Yo (pv 0) YU rfl)
     (Zg (Yo (pv 0) YU rfl)
     (Zg (Yo (pv 0) YU rfl)
     (Zi (Yo (pv 0) YU rfl)))))))), ?_⟩
   refine ⟨_, rfl, _, rfl, fun x dx' hx hdx nx => ?_⟩
   have nxp : x ≠ p := fun z => by rw [z, hp] at hx; cases hx
   have sP : Same (upd H0 p (.ins a.C_Book dxp [])) H := fun b o e => by
     by_cases z : b = p
     · subst z
       rw [Zb] at e
       cases e
       exact hp
     · rw [Zc z] at e
       exact s0 b o e
   have sA : Same H (upd (upd H dx' (.own x)) x (.ins a.C_Rack dx' [])) := fun b o e => by
     rw [Zc (Zk e hx), Zc (Zk e hdx)]
     exact e
   refine ⟨upd H0 p (.ins a.C_Book dxp []), x, dx', S, n, rfl, l1, l2, sP.trans sA, (by rw [Zc nxp]; exact s0.free hx), Zb, fun hb H' sH => k0 hb H' ((Same.upd h0).trans sH), fun g H1 ad dx ea P0 => ⟨rfl, ?_⟩⟩
   obtain ⟨⟨g1, g2⟩, g3, g4⟩ := id g
   have P1 := P0.adopt (l := .book) h0 rfl
   have hb1 := P1.here .book _ Zh
   rw [Zh] at hb1
   refine ⟨_, rfl, p, _, _, _, rfl, hb1, T.cl_Book, T.n_Book_rack, (by show 0 < 1000; decide), ?_⟩
   have P2 := P1.write (l := .book) (o' := .ins a.C_Book dxp [("rack", .ref x)]) Zh
   rw [Zh] at P2
   have hb2 := P2.here .book _ Zh
   rw [Zh] at hb2
   refine ⟨_, rfl, p, _, _, _, rfl, hb2, T.cl_Book, T.n_Book_now, (by show 1 < 1000; decide), ?_⟩
   have P3 := P2.write (l := .book) (o' := .ins a.C_Book dxp [("rack", .ref x), ("now", .int 0)]) Zh
   rw [Zh] at P3
   have hb3 := P3.here .book _ Zh
   rw [Zh] at hb3
   refine ⟨_, rfl, p, _, _, _, rfl, hb3, T.cl_Book, T.n_Book_next_number, (by show 2 < 1000; decide), ?_⟩
   have P4 := P3.write (l := .book) (o' := .ins a.C_Book dxp [("rack", .ref x), ("now", .int 0), ("next_number", .int 0)]) Zh
   rw [Zh] at P4
   intro d1 hd1
   have P5 := P4.add (l := .names) (x := d1) (o := .dK []) rfl hd1 (Same.upd hd1) Zb
   have hb5 := P5.here .book _ (by rw [Zd (by intro z; cases z), Zh])
   rw [Zd (by intro z; cases z), Zh] at hb5
   refine ⟨_, rfl, p, _, _, _, rfl, hb5, T.cl_Book, T.n_Book_names, (by show 3 < 1000; decide), ?_⟩
   have P6 := P5.write (l := .book) (o' := .ins a.C_Book dxp [("rack", .ref x), ("now", .int 0), ("next_number", .int 0), ("names", .ref d1)]) (by rw [Zd (by intro z; cases z), Zh])
   rw [Zd (by intro z; cases z), Zh] at P6
   intro d2 hd2
   have P7 := P6.add (l := .steps) (x := d2) (o := .dK []) rfl hd2 (Same.upd hd2) Zb
   have hb7 := P7.here .book _ (by rw [Zd (by intro z; cases z), Zh])
   rw [Zd (by intro z; cases z), Zd (by intro z; cases z), Zh] at hb7
   refine ⟨_, rfl, p, _, _, _, rfl, hb7, T.cl_Book, T.n_Book_steps, (by show 4 < 1000; decide), ?_⟩
   have P8 := P7.write (l := .book) (o' := .ins a.C_Book dxp [("rack", .ref x), ("now", .int 0), ("next_number", .int 0), ("names", .ref d1), ("steps", .ref d2)]) (by rw [Zd (by intro z; cases z), Zh])
   rw [Zd (by intro z; cases z), Zd (by intro z; cases z), Zh] at P8
   intro d3 hd3
   have P9 := P8.add (l := .ticks) (x := d3) (o := .dK []) rfl hd3 (Same.upd hd3) Zb
   have hb9 := P9.here .book _ (by rw [Zd (by intro z; cases z), Zh])
   rw [Zd (by intro z; cases z), Zd (by intro z; cases z), Zd (by intro z; cases z), Zh] at hb9
   refine ⟨_, rfl, p, _, _, _, rfl, hb9, T.cl_Book, T.n_Book_ticks, (by show 5 < 1000; decide), ?_⟩
   have P10 := P9.write (l := .book) (o' := .ins a.C_Book dxp [("rack", .ref x), ("now", .int 0), ("next_number", .int 0), ("names", .ref d1), ("steps", .ref d2), ("ticks", .ref d3)]) (by rw [Zd (by intro z; cases z), Zh])
   rw [Zd (by intro z; cases z), Zd (by intro z; cases z), Zd (by intro z; cases z), Zh] at P10
   intro d4 hd4
   have P11 := P10.add (l := .kept) (x := d4) (o := .dK []) rfl hd4 (Same.upd hd4) Zb
   have hb11 := P11.here .book _ (by rw [Zd (by intro z; cases z), Zh])
   rw [Zd (by intro z; cases z), Zd (by intro z; cases z), Zd (by intro z; cases z), Zd (by intro z; cases z), Zh] at hb11
   refine ⟨_, rfl, p, _, _, _, rfl, hb11, T.cl_Book, T.n_Book_kept_ticks, (by show 6 < 1000; decide), ?_⟩
   have P12 := P11.write (l := .book) (o' := .ins a.C_Book dxp (Sa x 0 0 d1 d2 d3 d4)) (by rw [Zd (by intro z; cases z), Zh])
   rw [Zd (by intro z; cases z), Zd (by intro z; cases z), Zd (by intro z; cases z), Zd (by intro z; cases z), Zh] at P12
   generalize hAd : lput (lput (lput (lput (lput ad .book p) .names d1) .steps d2) .ticks d3) .kept d4 = AD at P12
   have a1 : AD .book = p := by rw [← hAd]; rfl
   have a2 : AD .rack = x := by rw [← hAd]; exact ea
   have a3 : AD .names = d1 := by rw [← hAd]; rfl
   have a4 : AD .steps = d2 := by rw [← hAd]; rfl
   have a5 : AD .ticks = d3 := by rw [← hAd]; rfl
   have a6 : AD .kept = d4 := by rw [← hAd]; rfl
   have a7 : AD .wheels = ad .wheels := by rw [← hAd]; rfl
   have a8 : AD .rows = ad .rows := by rw [← hAd]; rfl
   have a9 : AD .spans = ad .spans := by rw [← hAd]; rfl
   have a10 : ∀ i, AD (.row i) = ad (.row i) := fun i => by rw [← hAd]; rfl
   have a11 : ∀ i, AD (.filled i) = ad (.filled i) := fun i => by rw [← hAd]; rfl
   have a12 : ∀ i, AD (.rising i) = ad (.rising i) := fun i => by rw [← hAd]; rfl
   have PB : Pt AD H0 _ (cont (clOf a) ⟨AD, lput dx .book dxp⟩ (fun _ _ => 0) (newB S n.toNat)) := P12.congr fun l => by
     cases l with
     | book =>
       rw [Zh]
       show _ = some (HO.ins a.C_Book _ (Sa (AD .rack) 0 0 (AD .names) (AD .steps) (AD .ticks) (AD .kept)))
       rw [a2, a3, a4, a5, a6]
       rfl
     | rack =>
       show some (HO.ins a.C_Rack (dx .rack) (UO (ad .wheels) (ad .rows))) = some (HO.ins a.C_Rack (dx .rack) (UO (AD .wheels) (AD .rows)))
       rw [a7, a8]
     | wheels =>
       show some (HO.ins a.C_Wheels (dx .wheels) (Yx S (ad .spans))) = some (HO.ins a.C_Wheels (dx .wheels) (Yx S (AD .spans)))
       rw [a9]
     | spans => rfl
     | rows =>
       show some (HO.lst ((List.range (n.toNat + 1)).map fun i => V.ref (ad (.row i)))) = some (HO.lst ((List.range ((List.range (n.toNat + 1)).map _).length).map fun i => V.ref (AD (.row i))))
       rw [List.length_map, List.length_range]
       congr 2
       apply List.map_congr_left
       intro i _
       rw [a10]
     | row i =>
       show (if i < n.toNat + 1 then some (HO.ins a.C_Row (dx (.row i)) (rowF (S ^ i) (ad (.filled i)) (ad (.rising i)))) else none) = (newB S n.toNat).rows[i]?.map fun r => HO.ins a.C_Row (dx (.row i)) (rowF r.span (AD (.filled i)) (AD (.rising i)))
       rw [Xr, a11, a12]
       by_cases h : i < n.toNat + 1
       · rw [if_pos h, if_pos h]; rfl
       · rw [if_neg h, if_neg h]; rfl
     | filled i =>
       show (if i < n.toNat + 1 then some (HO.dK []) else none) = (newB S n.toNat).rows[i]?.map fun r => HO.dK (ZP (fun _ _ => 0) i r.filled)
       rw [Xr]
       by_cases h : i < n.toNat + 1
       · rw [if_pos h, if_pos h]; rfl
       · rw [if_neg h, if_neg h]; rfl
     | rising i =>
       show (if i < n.toNat + 1 then some (HO.lst []) else none) = (newB S n.toNat).rows[i]?.map fun r => HO.lst (r.rising.map V.int)
       rw [Xr]
       by_cases h : i < n.toNat + 1
       · rw [if_pos h, if_pos h]; rfl
       · rw [if_neg h, if_neg h]; rfl
     | names => rfl
     | steps => rfl
     | ticks => rfl
     | kept => rfl
     | slot i s =>
       show none = (newB S n.toNat).rows[i]?.bind fun r => (get r.filled s).map fun ns => HO.dK (numV ns)
       rw [Xr]
       by_cases h : i < n.toNat + 1
       · rw [if_pos h]; rfl
       · rw [if_neg h]; rfl
   have hsl : ∀ i s, cont (clOf a) ⟨AD, lput dx .book dxp⟩ (fun _ _ => 0) (newB S n.toNat) (.slot i s) = none := fun i s => by
     show ((newB S n.toNat).rows[i]?.bind fun r => (get r.filled s).map fun ns => HO.dK (numV ns)) = none
     rw [Xr]
     by_cases h : i < n.toNat + 1
     · rw [if_pos h]; rfl
     · rw [if_neg h]; rfl
   have hok := newB_ok (n := n.toNat) g1 g2 (by omega) (by omega)
   exact k1 g _ ⟨⟨AD, lput dx .book dxp⟩, _, newB S n.toNat, a1, bk_of PB hsl, hok, rfl, rfl, rfl, rfl⟩
end Tk
end
section
namespace Tk
open PySem L2 Mir Tb
inductive Deed where
 | set (due : Int) (step : Option Int) (name : Str)
 | pass (t : Int)
 | move (k due : Int)
 | back (k due : Int)
 | rest (k due : Int)
 | on (k due : Int)
inductive Ret where
 | int (i : Int)
 | str (x : Str)
 | non
 | rings (rs : List (Int × Int × Str))
inductive Does : Deed → Vw → Ret → Vw → Prop where
 | setNo {v : Vw} {due : Int} {step : Option Int} {name : Str} : (due ≤ v.now ∨ ∃ s, step = some s ∧ s < 1) → Does (.set due step name) v (.str "past") v
 | setOk {v : Vw} {due : Int} {step : Option Int} {name : Str} : v.now < due → (∀ s, step = some s → 1 ≤ s) → Does (.set due step name) v (.int v.next) { v with next := v.next + 1, wait := fput v.wait v.next (some ⟨name, due, step⟩) }
 | passNo {v : Vw} {t : Int} : t < 0 → Does (.pass t) v (.str "past") v
 | passOk {v : Vw} {t : Int} {rs : List (Int × Int × Str)} {g : Fn Str} : 0 ≤ t → Runs (v.now + t) v.wait rs g → Does (.pass t) v (.rings rs) { v with now := v.now + t, wait := g }
 | moveNo {v : Vw} {k due : Int} : v.wait k = none → Does (.move k due) v (.str "there") v
 | moveNo2 {v : Vw} {k due : Int} {al : Al Str} : v.wait k = some al → due ≤ v.now → Does (.move k due) v (.str "past") v
 | moveOk {v : Vw} {k due : Int} {al : Al Str} : v.wait k = some al → v.now < due → Does (.move k due) v .non { v with wait := fput v.wait k (some ⟨al.name, due, al.step⟩) }
 | backNo {v : Vw} {k due : Int} : v.wait k = none → v.rest k = none → Does (.back k due) v (.str "there") v
 | backW {v : Vw} {k due : Int} {al : Al Str} : v.wait k = some al → Does (.back k due) v (.str al.name) { v with wait := fput v.wait k none }
 | backR {v : Vw} {k due : Int} {al : Al Str} : v.wait k = none → v.rest k = some al → Does (.back k due) v (.str al.name) { v with rest := fput v.rest k none }
 | restNo {v : Vw} {k due : Int} : v.wait k = none → Does (.rest k due) v (.str "there") v
 | restOk {v : Vw} {k due : Int} {al : Al Str} : v.wait k = some al → Does (.rest k due) v .non { v with wait := fput v.wait k none, rest := fput v.rest k (some ⟨al.name, al.tick - v.now, al.step⟩) }
 | onNo {v : Vw} {k due : Int} : v.rest k = none → Does (.on k due) v (.str "there") v
 | onOk {v : Vw} {k due : Int} {al : Al Str} : v.rest k = some al → Does (.on k due) v .non { v with rest := fput v.rest k none, wait := fput v.wait k (some ⟨al.name, v.now + al.tick, al.step⟩) }
structure AlOk (a : Al Str) : Prop where
 nm : PyData.strOk a.name = true
 st : ∀ s, a.step = some s → 0 < s ∧ s < 2 ^ 100
structure LOk (j : Nat) (v : Vw) : Prop where
 j24 : j ≤ 24
 sl : 2 ≤ v.S ∧ v.S ≤ 64
 now : 0 ≤ v.now ∧ v.now ≤ j * 10000000000000
 next : 0 ≤ v.next ∧ v.next ≤ j
 wait : ∀ k a, v.wait k = some a → (0 ≤ k ∧ k < v.next) ∧ v.now < a.tick ∧ AlOk a
 rest : ∀ k a, v.rest k = some a → (0 ≤ k ∧ k < v.next) ∧ 0 < a.tick ∧ AlOk a
def DeedOk (v : Vw) : Deed → Prop
 | .set due step name => Lg due ∧ (∀ s, step = some s → s < 2 ^ 100 ∧ Lg s) ∧ PyData.strOk name = true
 | .pass t => Lg t ∧ t ≤ 10000000000000 ∧ (0 ≤ t → muF (v.now + t) 63 v.wait ≤ 1000000)
 | .move k due => Lg k ∧ Lg due
 | .back k _ => Lg k
 | .rest k _ => Lg k
 | .on k _ => Lg k
def RetOk : Ret → Prop
 | .str x => PyData.strOk x = true
 | .rings rs => ∀ r ∈ rs, PyData.strOk r.2.2 = true
 | _ => True
theorem after_al {a b : Al Str} (h : after a = some b) : b.name = a.name ∧ b.step = a.step := by
 unfold after at h
 cases hs : a.step with
 | none => rw [hs] at h; cases h
 | some k => rw [hs] at h; cases h; exact ⟨rfl, rfl⟩
theorem Sr {goal : Int} {f g : Fn Str} {rs : List (Int × Int × Str)} (h : Runs goal f rs g) : (∀ k b, g k = some b → ∃ a, f k = some a ∧ b.name = a.name ∧ b.step = a.step) ∧ ∀ r ∈ rs, ∃ k a, f k = some a ∧ r.2.2 = a.name := by
 induction h with
 | stop _ => exact ⟨fun k b e => ⟨b, e, rfl, rfl⟩, fun r hr => by cases hr⟩
 | @ring f g n a l nx r ih =>
   have back : ∀ k b, fput f n (after a) k = some b → ∃ a, f k = some a ∧ b.name = a.name ∧ b.step = a.step := fun k b e => by
     by_cases hk : k = n
     · subst hk
       rw [ZF] at e
       exact ⟨a, nx.there, after_al e⟩
     · rw [ZW _ _ hk] at e
       exact ⟨b, e, rfl, rfl⟩
   refine ⟨fun k b e => ?_, fun r hr => ?_⟩
   · obtain ⟨c, h1, h2, h3⟩ := ih.1 k b e
     obtain ⟨d, h4, h5, h6⟩ := back k c h1
     exact ⟨d, h4, h2.trans h5, h3.trans h6⟩
   · rcases List.mem_cons.mp hr with e | hr
     · subst e
       exact ⟨n, a, nx.there, rfl⟩
     · obtain ⟨k, c, h1, h2⟩ := ih.2 r hr
       obtain ⟨d, h4, h5, _⟩ := back k c h1
       exact ⟨k, d, h4, h2.trans h5⟩
theorem LOk.up {j : Nat} {v : Vw} (o : LOk j v) (h : j < 24) : LOk (j + 1) v := by
 have n1 := o.now
 have n2 := o.next
 exact ⟨by omega, o.sl, ⟨n1.1, by omega⟩, ⟨n2.1, by omega⟩, o.wait, o.rest⟩
theorem LOk.does {j : Nat} {v v' : Vw} {d : Deed} {r : Ret} (o : LOk j v) (hj : j < 24) (dk : DeedOk v d) (h : Does d v r v') (okP : PyData.strOk "past" = true) (okT : PyData.strOk "there" = true) : LOk (j + 1) v' ∧ RetOk r := by
 have n1 := o.now
 have n2 := o.next
 have u := o.up hj
 cases h with
 | setNo _ => exact ⟨u, okP⟩
 | @setOk _ due step name h1 h2 =>
   refine ⟨⟨by omega, o.sl, ⟨n1.1, by show v.now ≤ _; omega⟩, ⟨by show 0 ≤ v.next + 1; omega, by show v.next + 1 ≤ _; omega⟩, fun k a e => ?_, fun k a e => ?_⟩, trivial⟩
   · by_cases hk : k = v.next
     · subst hk
       have e' : fput v.wait v.next (some ⟨name, due, step⟩) v.next = some a := e
       rw [ZF] at e'
       cases e'
       exact ⟨⟨n2.1, by show v.next < v.next + 1; omega⟩, h1, dk.2.2, fun s hs => ⟨by have := h2 s hs; omega, (dk.2.1 s hs).1⟩⟩
     · have e' : fput v.wait v.next (some ⟨name, due, step⟩) k = some a := e
       rw [ZW _ _ hk] at e'
       obtain ⟨w1, w2⟩ := o.wait k a e'
       exact ⟨⟨w1.1, by show k < v.next + 1; omega⟩, w2⟩
   · obtain ⟨w1, w2⟩ := o.rest k a e
     exact ⟨⟨w1.1, by show k < v.next + 1; omega⟩, w2⟩
 | passNo _ => exact ⟨u, okP⟩
 | @passOk _ t rs g h1 h2 =>
   obtain ⟨_, dk2, _⟩ := dk
   obtain ⟨r1, r2⟩ := Sr h2
   refine ⟨⟨by omega, o.sl, ⟨by show 0 ≤ v.now + t; omega, by show v.now + t ≤ _; omega⟩, ⟨n2.1, by show v.next ≤ _; omega⟩, fun k a e => ?_, o.rest⟩, fun r hr => ?_⟩
   · obtain ⟨b, e1, e2, e3⟩ := r1 k a e
     obtain ⟨w1, w2, w3⟩ := o.wait k b e1
     exact ⟨w1, h2.end k a e, by rw [e2]; exact w3.nm, fun s hs => w3.st s (by rw [← e3]; exact hs)⟩
   · obtain ⟨k, a, e1, e2⟩ := r2 r hr
     rw [e2]
     exact (o.wait k a e1).2.2.nm
 | moveNo _ => exact ⟨u, okT⟩
 | moveNo2 _ _ => exact ⟨u, okP⟩
 | @moveOk _ k due al h1 h2 =>
   obtain ⟨w1, w2, w3⟩ := o.wait k al h1
   refine ⟨⟨u.j24, u.sl, u.now, u.next, fun k' a e => ?_, o.rest⟩, trivial⟩
   have e' : fput v.wait k (some ⟨al.name, due, al.step⟩) k' = some a := e
   by_cases hk : k' = k
   · subst hk
     rw [ZF] at e'
     cases e'
     exact ⟨w1, h2, w3.nm, w3.st⟩
   · rw [ZW _ _ hk] at e'
     exact o.wait k' a e'
 | backNo _ _ => exact ⟨u, okT⟩
 | @backW _ k due al h1 =>
   obtain ⟨w1, w2, w3⟩ := o.wait k al h1
   refine ⟨⟨u.j24, u.sl, u.now, u.next, fun k' a e => ?_, o.rest⟩, w3.nm⟩
   have e' : fput v.wait k none k' = some a := e
   by_cases hk : k' = k
   · subst hk; rw [ZF] at e'; cases e'
   · rw [ZW _ _ hk] at e'
     exact o.wait k' a e'
 | @backR _ k due al h0 h1 =>
   obtain ⟨w1, w2, w3⟩ := o.rest k al h1
   refine ⟨⟨u.j24, u.sl, u.now, u.next, o.wait, fun k' a e => ?_⟩, w3.nm⟩
   have e' : fput v.rest k none k' = some a := e
   by_cases hk : k' = k
   · subst hk; rw [ZF] at e'; cases e'
   · rw [ZW _ _ hk] at e'
     exact o.rest k' a e'
 | restNo _ => exact ⟨u, okT⟩
 | @restOk _ k due al h1 =>
   obtain ⟨w1, w2, w3⟩ := o.wait k al h1
   refine ⟨⟨u.j24, u.sl, u.now, u.next, fun k' a e => ?_, fun k' a e => ?_⟩, trivial⟩
   · have e' : fput v.wait k none k' = some a := e
     by_cases hk : k' = k
     · subst hk; rw [ZF] at e'; cases e'
     · rw [ZW _ _ hk] at e'
       exact o.wait k' a e'
   · have e' : fput v.rest k (some ⟨al.name, al.tick - v.now, al.step⟩) k' = some a := e
     by_cases hk : k' = k
     · subst hk
       rw [ZF] at e'
       cases e'
       exact ⟨w1, by show 0 < al.tick - v.now; omega, w3.nm, w3.st⟩
     · rw [ZW _ _ hk] at e'
       exact o.rest k' a e'
 | onNo _ => exact ⟨u, okT⟩
 | @onOk _ k due al h1 =>
   obtain ⟨w1, w2, w3⟩ := o.rest k al h1
   refine ⟨⟨u.j24, u.sl, u.now, u.next, fun k' a e => ?_, fun k' a e => ?_⟩, trivial⟩
   · have e' : fput v.wait k (some ⟨al.name, v.now + al.tick, al.step⟩) k' = some a := e
     by_cases hk : k' = k
     · subst hk
       rw [ZF] at e'
       cases e'
       exact ⟨w1, by show v.now < v.now + al.tick; omega, w3.nm, w3.st⟩
     · rw [ZW _ _ hk] at e'
       exact o.wait k' a e'
   · have e' : fput v.rest k none k' = some a := e
     by_cases hk : k' = k
     · subst hk; rw [ZF] at e'; cases e'
     · rw [ZW _ _ hk] at e'
       exact o.rest k' a e'
theorem LOk.good {j : Nat} {v : Vw} (o : LOk j v) : GoodF 63 v.wait := fun k a e => by
 obtain ⟨w1, w2, w3⟩ := o.wait k a e
 have := o.next
 have := o.j24
 exact ⟨⟨w1.1, by omega⟩, fun s hs => (w3.st s hs).1⟩
theorem TM {goal : Int} {f : Fn Str} {m : Nat} (h : ∀ k a, f k = some a → cnt goal a ≤ m) (N : Nat) : muF goal N f ≤ N * m := by
 unfold muF
 induction N with
 | zero => exact Nat.zero_le _
 | succ N ih =>
   rw [List.range_succ, List.map_append, List.sum_append]
   have : cntO goal (f (N : Int)) ≤ m := by
     cases e : f (N : Int) with
     | none => exact Nat.zero_le _
     | some al => exact h _ _ e
   simp only [List.map_cons, List.map_nil, List.sum_cons, List.sum_nil]
   rw [Nat.succ_mul]
   omega
theorem cnt_few {now t : Int} {a : Al Str} (ah : now < a.tick) (h0 : 0 ≤ t) (h : ∀ s, a.step = some s → 0 < s ∧ t / s ≤ 60) : cnt (now + t) a ≤ 61 := by
 unfold cnt
 by_cases hd : a.tick ≤ now + t
 · rw [if_pos hd]
   cases hs : a.step with
   | none => show 1 ≤ 61; decide
   | some s =>
     obtain ⟨h1, h2⟩ := h s hs
     show ((now + t - a.tick) / s + 1).toNat ≤ 61
     have : (now + t - a.tick) / s ≤ t / s := Int.ediv_le_ediv h1 (by omega)
     omega
 · rw [if_neg hd]
   exact Nat.zero_le _
theorem mu_few {v : Vw} {t : Int} {j : Nat} (o : LOk j v) (h : ∀ k a s, v.wait k = some a → a.step = some s → t / s ≤ 60) (h0 : 0 ≤ t) : muF (v.now + t) 63 v.wait ≤ 1000000 := by
 refine Nat.le_trans (TM (m := 61) (fun k a e => ?_) 63) (by decide)
 obtain ⟨w1, w2, w3⟩ := o.wait k a e
 exact cnt_few w2 h0 fun s hs => ⟨(w3.st s hs).1, h k a s e hs⟩
theorem div_small {t s : Int} (h0 : 0 ≤ t) (h1 : t < 30) (hs : 0 < s) : t / s ≤ 60 := by
 have : t / s ≤ t := Int.ediv_le_self _ h0
 omega
end Tk
end
section
namespace Tk
open PySem L2 Mir Rk Tb
open PyProof.Rows (boot_sorted boot_min boot_enumerate boot_isinstance boot_sum boot_max)
variable {P : Program} {w : World} {K : W.Frag} {mg : Str → Option Value} {base : Heap} {a : Ad}
theorem Xs {x : Int} (h1 : -(2 ^ 100) < x) (h2 : x < 2 ^ 100) : Lg x := by
 unfold Lg
 by_cases hz : x.natAbs = 0
 · rw [hz]; decide
 · have h : x.natAbs < 2 ^ 100 := by omega
   exact Nat.lt_trans ((Nat.log2_lt hz).mpr h) (by decide)
theorem pick {xs : List V} {i : Int} (h0 : 0 ≤ i) (h1 : i < (xs.length : Int)) : ∃ v, atI xs i = some v ∧ v ∈ xs := by
 obtain ⟨j, rfl⟩ : ∃ j : Nat, i = (j : Int) := ⟨i.toNat, (Int.toNat_of_nonneg h0).symm⟩
 have hj : j < xs.length := by omega
 exact ⟨xs[j], atI_nat (by simp [hj]), List.getElem_mem hj⟩
theorem pickI {ns : List Int} {i : Int} (h0 : 0 ≤ i) (h1 : i < (ns.length : Int)) : ∃ x, atI (ns.map V.int) i = some (V.int x) ∧ x ∈ ns := by
 obtain ⟨v, h2, h3⟩ := pick (xs := ns.map V.int) h0 (by simpa using h1)
 obtain ⟨x, hx, rfl⟩ := List.mem_map.mp h3
 exact ⟨x, h2, hx⟩
theorem BookAt.same {c : Cl} {H0 H : Hp} {p : Addr} {v : Vw} (b : BookAt c H0 H p v) : Same H0 H := by
 obtain ⟨A, sl, B, _, b, _⟩ := b
 exact b.same
theorem BookAt.out {c : Cl} {H0 H : Hp} {p : Addr} {v : Vw} (b : BookAt c H0 H p v) {x : Addr} {o : HO} (hx : H x = none ∨ ∃ u, H0 x = some u) : BookAt c (upd H0 x o) (upd H x o) p v := by
 obtain ⟨A, sl, B, e, b, r⟩ := b
 exact ⟨A, sl, B, e, b.out hx, r⟩
structure Fr (W : List Addr) (H0 H H0' H' : Hp) : Prop where
 same : Same H0' H'
 keep : ∀ x o, x ∉ W → H0 x = some o → H0' x = some o
 own : ∀ x o, H x = some o → H0 x = none → H' x = some o ∧ H0' x = none
theorem Fr.trans {W : List Addr} {H0 H H1 H1' H2 H2' : Hp} (a : Fr W H0 H H1 H1') (b : Fr W H1 H1' H2 H2') : Fr W H0 H H2 H2' :=
 ⟨b.same, fun x o hx h => b.keep x o hx (a.keep x o hx h), fun x o h h0 => by
   obtain ⟨u, u0⟩ := a.own x o h h0
   exact b.own x o u u0⟩
theorem Vt {H0 H : Hp} (s : Same H0 H) (x : Addr) (o : HO) : Same (upd H0 x o) (upd H x o) := fun y u h => by
 by_cases z : y = x
 · subst z
   rw [Zb] at h ⊢
   exact h
 · rw [Zc z] at h ⊢
   exact s y u h
theorem Fr.new {W : List Addr} {H0 H : Hp} (s : Same H0 H) {x : Addr} {o : HO} (h : H x = none) : Fr W H0 H (upd H0 x o) (upd H x o) :=
 ⟨Vt s x o, fun y u _ hy => by rw [Zc (Zk hy (s.free h))]; exact hy, fun y u hy h0 => by
   rw [Zc (Zk hy h), Zc (Zk hy h)]
   exact ⟨hy, h0⟩⟩
theorem Fr.grow {H0 H H0' H' : Hp} (f : Fr [] H0 H H0' H') : Same H0 H0' := fun x o h => f.keep x o (by simp) h
theorem BookAt.fr {c : Cl} {W : List Addr} {H0 H H0' H' : Hp} {p : Addr} {v : Vw} (b : BookAt c H0 H p v) (f : Fr W H0 H H0' H') : BookAt c H0' H' p v := by
 obtain ⟨A, sl, B, e, b, r⟩ := b
 exact ⟨A, sl, B, e, ⟨f.same, fun l o h => (f.own _ _ (b.here l o h) (b.free l o h)).2, fun l o h => (f.own _ _ (b.here l o h) (b.free l o h)).1, b.inj⟩, r⟩
abbrev TabA := Dct (Addr × Al Str)
def tabV (t : TabA) : List (Key × V) := mapK (fun _ x => V.ref x.1) t
def alV (a : Al Str) : List V := [.str a.name, .int a.tick, Yi a.step]
def fnT (t : TabA) : Fn Str := fun k => (get t k).map (·.2)
def wdV (v : Vw) (dw dr : Addr) : List (Key × V) := [(Sum.inr "slots", .int v.S), (Sum.inr "levels", .int v.n), (Sum.inr "now", .int v.now), (Sum.inr "many", .int v.next), (Sum.inr "waits", .ref dw), (Sum.inr "rests", .ref dr)]
structure WAt (H : Hp) (q dw dr : Addr) (tw tr : TabA) (v : Vw) : Prop where
 top : H q = some (.dK (wdV v dw dr))
 wts : H dw = some (.dK (tabV tw))
 rts : H dr = some (.dK (tabV tr))
 aw : ∀ p ∈ tw, H p.2.1 = some (.tup (alV p.2.2))
 ar : ∀ p ∈ tr, H p.2.1 = some (.tup (alV p.2.2))
 n1 : q ≠ dw
 n2 : q ≠ dr
 n3 : dw ≠ dr
 ndw : (keys tw).Nodup
 ndr : (keys tr).Nodup
 ew : fnT tw = v.wait
 er : fnT tr = v.rest
section
variable {v : Vw} {dw dr : Addr}
theorem wd_slots : valV (wdV v dw dr) (Sum.inr "slots") = some (.int v.S) := by kernel_rfl
theorem wd_now : valV (wdV v dw dr) (Sum.inr "now") = some (.int v.now) := by kernel_rfl
theorem wd_pnow {x : Int} : putK (wdV v dw dr) (Sum.inr "now") (.int x) = wdV { v with now := x } dw dr := by kernel_rfl
end
section
variable {H H1 : Hp} {q dw dr : Addr} {tw tr : TabA} {v : Vw}
theorem WAt.up (w : WAt H q dw dr tw tr v) (s : Same H H1) : WAt H1 q dw dr tw tr v :=
 ⟨s _ _ w.top, s _ _ w.wts, s _ _ w.rts, fun p h => s _ _ (w.aw p h), fun p h => s _ _ (w.ar p h), w.n1, w.n2, w.n3, w.ndw, w.ndr, w.ew, w.er⟩
theorem WAt.gSlots (w : WAt H q dw dr tw tr v) : DGet H q (.str "slots") (some (.int v.S)) := wd_slots (v := v) (dw := dw) (dr := dr) ▸ DGet.k (k := Sum.inr "slots") w.top
theorem WAt.gNow (w : WAt H q dw dr tw tr v) : DGet H q (.str "now") (some (.int v.now)) := wd_now (v := v) (dw := dw) (dr := dr) ▸ DGet.k (k := Sum.inr "now") w.top
theorem WAt.pNow (w : WAt H q dw dr tw tr v) (x : Int) : DPut H q (.str "now") (.int x) (upd H q (.dK (wdV { v with now := x } dw dr))) := by
 rw [← wd_pnow]
 exact DPut.k (k := Sum.inr "now") w.top (by show 6 < sizeLine; decide)
theorem WAt.wTop (w : WAt H q dw dr tw tr v) {v' : Vw} (h1 : v'.wait = v.wait) (h2 : v'.rest = v.rest) : WAt (upd H q (.dK (wdV v' dw dr))) q dw dr tw tr v' := by
 have nt : ∀ {x : Addr} {xs : List V}, H x = some (.tup xs) → x ≠ q := fun h z => by rw [z, w.top] at h; cases h
 refine ⟨Zb, by rw [Zc w.n1.symm]; exact w.wts, by rw [Zc w.n2.symm]; exact w.rts, fun p h => ?_, fun p h => ?_, w.n1, w.n2, w.n3, w.ndw, w.ndr, w.ew.trans h1.symm, w.er.trans h2.symm⟩
 · rw [Zc (nt (w.aw p h))]; exact w.aw p h
 · rw [Zc (nt (w.ar p h))]; exact w.ar p h
end
def Wld (H : Hp) (q dw dr : Addr) (v : Vw) : Prop := ∃ tw tr, WAt H q dw dr tw tr v
def UN (r : Int × Int × Str) : PyData := .tuple [.int r.1, .int r.2.1, .str r.2.2]
def retD : Ret → PyData
 | .int i => .int i
 | .str s => .str s
 | .non => .none
 | .rings rs => .list (rs.map UN)
theorem RingsAt.den {K : W.Frag} {H : Hp} {l : Addr} {rs : List (Int × Int × Str)} (r : RingsAt H l rs) : Den K H (.ref l) (.list (rs.map UN)) := by
 obtain ⟨qs, rfl, h, t⟩ := r
 refine .lst (SqL.of h) ?_
 clear h
 induction qs with
 | nil => exact .nil
 | cons q qs ih =>
   refine .cons (.tup (SqT.of (t q List.mem_cons_self)) (.cons (.int _) (.cons (.int _) (.cons (.str _) .nil)))) ?_
   exact ih fun q' h' => t q' (List.mem_cons_of_mem _ h')
theorem depth_rings (rs : List (Int × Int × Str)) : PyData.depthAll (rs.map UN) ≤ 4 := by
 induction rs with
 | nil => exact Nat.zero_le _
 | cons r rs ih =>
   simp only [List.map_cons, PyData.depthAll, UN, PyData.depth]
   omega
theorem SF {rs : List (Int × Int × Str)} (h : ∀ r ∈ rs, PyData.strOk r.2.2 = true) : PyData.canLayAll0 (rs.map UN) = true := by
 induction rs with
 | nil => simp [PyData.canLayAll0]
 | cons r rs ih =>
   have h1 := h r List.mem_cons_self
   have h2 := ih fun r' hr => h r' (List.mem_cons_of_mem _ hr)
   simp [UN, PyData.canLayAll0, PyData.canLay0, h1, h2]
theorem shaped_ret {r : Ret} (h : RetOk r) : SeqAt.shaped (retD r) = true := by
 cases r with
 | int i => simp [SeqAt.shaped, retD, PyData.canLay0, PyData.depth]
 | str y =>
   have h' : PyData.strOk y = true := h
   simp [SeqAt.shaped, retD, PyData.canLay0, PyData.depth, h']
 | non => simp [SeqAt.shaped, retD, PyData.canLay0, PyData.depth]
 | rings rs =>
   have h1 := SF (rs := rs) h
   have h2 := depth_rings rs
   simp [SeqAt.shaped, retD, PyData.canLay0, PyData.depth, h1]
   omega
def spCell (K : W.Frag) : Sp := fun vs H Q _ => ∃ (l : Addr) (ns : List Int) (k : Int), vs = [.ref l, .int k] ∧ SqL K H l (ns.map V.int) ∧ ∀ x : Int, Q (.int x) H
theorem Sn : FnScope ["_law_script", "_law_k"] ["_law_script", "_law_k"] (Ze YB) := Zr
theorem Sy (T : Txt K mg a) : FnOk P w K mg base (CXe P w) 1 a.f__law_cell a.fd__law_cell ["_law_script", "_law_k"] (spCell K) := by
 refine T.F__law_cell.okN Sn (fun vs H Q E h => ?_) (fun cdv A' outer s H vs Q E hr h => ?_)
 · obtain ⟨l, ns, k, rfl, _⟩ := h
   rfl
 · obtain ⟨l, ns, k, rfl, hl, kk⟩ := h
   refine ⟨_, (Zg (YC (UP (pv 0) (fun _ => rfl)) (Zi (ZA (YT Yw (pv 0) (Zm Yl (pv 1) (Yd Yg rfl T.b_len boot_len (Za (pv 0) Zf))) (fun _ _ => rfl)))) Yf)
     (Zi (ZA Zj))), ?_⟩
   cases ns with
   | nil =>
     refine ⟨_, rfl, false, .inl ⟨_, hl, rfl⟩, iteF ?_⟩
     exact kk 0
   | cons n ns =>
     refine ⟨_, rfl, true, .inl ⟨_, hl, rfl⟩, iteT ?_⟩
     have hp : (0 : Int) < (((n :: ns).map V.int).length : Int) := by simp
     have h1 := Int.emod_nonneg k (Int.ne_of_gt hp)
     have h2 := Int.emod_lt_of_pos k hp
     obtain ⟨j, hj⟩ : ∃ j : Nat, k % (((n :: ns).map V.int).length : Int) = (j : Int) := ⟨(k % _).toNat, (Int.toNat_of_nonneg h1).symm⟩
     have hjl : j < (n :: ns).length := by rw [hj] at h2; simp at h2 ⊢; omega
     refine ⟨_, rfl, _, rfl, _, rfl, _, _, rfl, .inl hl, _, _, rfl, rfl, hp, _, _, _, .int (n :: ns)[j], rfl, rfl, hl, ?_, kk _⟩
     rw [hj]
     exact atI_nat (by rw [List.getElem?_map]; simp [hjl])
def spMix (K : W.Frag) : Sp := fun vs H Q _ => ∃ (l : Addr) (ns : List Int) (k : Int), vs = [.ref l, .int k] ∧ SqL K H l (ns.map V.int) ∧ ∀ x : Int, 0 ≤ x → x < 4294967231 → Q (.int x) H
theorem sc__law_mix : FnScope ["_law_script", "_law_k", "_law_number"] ["_law_script", "_law_k"] (Ze YJ) := Zr
theorem XG (T : Txt K mg a) : FnOk P w K mg base (CXe P w) 2 a.f__law_mix a.fd__law_mix ["_law_script", "_law_k"] (spMix K) := by
 have G__law_cell := Sy (P := P) (w := w) (base := base) T
 refine T.F__law_mix.okN sc__law_mix (fun vs H Q E h => ?_) (fun cdv A' outer s H vs Q E hr h => ?_)
 · obtain ⟨l, ns, k, rfl, _⟩ := h
   rfl
 · obtain ⟨l, ns, k, rfl, hl, kk⟩ := h
   refine ⟨_, (Zg (Zs (i := 2) sc__law_mix.nd rfl (Or.inl rfl) (Zm Yl (Zm Ye (Zu G__law_cell (hr.mono (by decide)) rfl T.f__law_cell T.kp__law_cell T.B__law_cell .nil ZC (Za (pv 0) (Za (pv 1) Zf))) (Zm YY Zj (Zm Ye (pv 1) Zj))) Zj))
     (Zg (Zs (i := 2) sc__law_mix.nd rfl (Or.inl rfl) (Zm Yl (Zm YY (pv 2) Zj) Zj))
     (Zi (ZA (Zm Yl (Zm Ye (Zm YY (Zm ZO (pv 2) Zj) Zj) (pv 2)) Zj))))), ?_⟩
   refine ⟨_, rfl, _, rfl, l, ns, k, rfl, hl, fun x => ?_⟩
   refine ⟨_, rfl, _, _, rfl, rfl, _, _, rfl, rfl, .inl ⟨by decide, by decide⟩, _, _, rfl, rfl, _, _, rfl, rfl, (by show (0 : Int) < 4294967291; decide), ?_⟩
   refine ⟨_, rfl, _, _, rfl, rfl, .inr ⟨by decide, by decide⟩, _, _, rfl, rfl, (by show (0 : Int) < 4294967279; decide), ?_⟩
   refine ⟨_, rfl, _, _, rfl, rfl, ⟨by decide, by decide⟩, _, _, rfl, rfl, .inr ⟨by decide, by decide⟩, _, rfl, _, _, rfl, rfl, _, _, rfl, rfl, (by show (0 : Int) < 4294967231; decide), ?_⟩
   exact kk _ (Int.emod_nonneg _ (by decide)) (Int.emod_lt_of_pos _ (by decide))
theorem wd_merge {v : Vw} {dw dr : Addr} : VX [] (wdV v dw dr) = wdV v dw dr := by kernel_rfl
theorem pow_le64b {S : Int} (h1 : 2 ≤ S) (h2 : S ≤ 64) (i : Nat) : 0 ≤ S ^ i ∧ S ^ i ≤ 64 ^ i := by
 induction i with
 | zero => rw [Int.pow_zero, Int.pow_zero]; decide
 | succ i ih =>
   rw [Int.pow_succ, Int.pow_succ]
   exact ⟨Int.mul_nonneg ih.1 (by omega), Int.mul_le_mul ih.2 h2 (by omega) (Int.le_trans ih.1 ih.2)⟩
theorem pow6 {S : Int} (h1 : 2 ≤ S) (h2 : S ≤ 64) {i : Nat} (hi : i ≤ 6) : S ^ i ≤ 68719476736 := by
 have h : ∀ i : Fin 7, (64 : Int) ^ i.1 ≤ 68719476736 := by decide
 exact Int.le_trans (pow_le64b h1 h2 i).2 (h ⟨i, by omega⟩)
def spNew : Sp := fun vs H Q _ => ∃ (S : Int) (n : Nat), vs = [.int S, .int n] ∧ ∀ q dw dr, H q = none → upd H q (.dK []) dw = none → upd (upd H q (.dK [])) dw (.dK []) dr = none → Q (.ref q) (upd (upd (upd (upd H q (.dK [])) dw (.dK [])) dr (.dK [])) q (.dK (wdV (newV S n) dw dr)))
theorem sc__law_new : FnScope ["_law_slots", "_law_levels"] ["_law_slots", "_law_levels"] (Ze YI) := Zr
theorem ok__law_new (T : Txt K mg a) : FnOk P w K mg base (CXe P w) 1 a.f__law_new a.fd__law_new ["_law_slots", "_law_levels"] spNew := by
 refine T.F__law_new.okN sc__law_new (fun vs H Q E h => ?_) (fun cdv A' outer s H vs Q E hr h => ?_)
 · obtain ⟨S, n, rfl, _⟩ := h
   rfl
 · obtain ⟨S, n, rfl, kk⟩ := h
   refine ⟨_, (Zi (ZA (pe_disp (Xp Yc (pv 0) (Xp Yc (pv 1) (Xp Yc Zj (Xp Yc Zj (Xp Yc YU (Xp Yc YU pps_nil)))))) rfl rfl (fun z => by cases z) (by decide)))), ?_⟩
   refine fun q hq => ⟨_, rfl, _, rfl, fun dw hdw dr hdr => ⟨?_, wdV (newV S n) dw dr, rfl, (by show 6 ≤ 15; decide), ?_⟩⟩
   · have n1 : q ≠ dr := fun z => by
       have h1 : upd (upd H q (.dK [])) dw (.dK []) q ≠ none := by
         unfold upd
         by_cases e : q = dw <;> simp [e]
       rw [← z] at hdr
       exact h1 hdr
     have n2 : q ≠ dw := fun z => by rw [← z, Zb] at hdw; cases hdw
     rw [Zc n1, Zc n2]
     exact Zb
   · rw [wd_merge]
     exact kk q dw dr hq hdw hdr
def spWheels (K : W.Frag) : Sp := fun vs H Q _ => ∃ (l : Addr) (ns : List Int) (k : Int), vs = [.ref l, .int k] ∧ SqL K H l (ns.map V.int) ∧ ∀ (S : Int) (n : Nat) (H' : Hp) (p : Addr), (2 ≤ S ∧ S ≤ 64) → (1 ≤ n ∧ n ≤ 6) → Same H H' → H' p = some (.tup [.int S, .int n]) → Q (.ref p) H'
theorem sc__law_wheels : FnScope ["_law_script", "_law_k", "_law_number"] ["_law_script", "_law_k"] (Ze Yj) := Zr
theorem UX (T : Txt K mg a) : FnOk P w K mg base (CXe P w) 3 a.f__law_wheels a.fd__law_wheels ["_law_script", "_law_k"] (spWheels K) := by
 have G__law_mix := XG (P := P) (w := w) (base := base) T
 refine T.F__law_wheels.okN sc__law_wheels (fun vs H Q E h => ?_) (fun cdv A' outer s H vs Q E hr h => ?_)
 · obtain ⟨l, ns, k, rfl, _⟩ := h
   rfl
 · obtain ⟨l, ns, k, rfl, hl, kk⟩ := h
   refine ⟨_, YZ, ?_⟩
   refine Zz (Zs (i := 2) sc__law_wheels.nd rfl (Or.inl rfl) (Zu G__law_mix (hr.mono (by decide)) (by rfl) T.f__law_mix T.kp__law_mix T.B__law_mix .nil ZC (Za (pv 0) (Za (pv 1) Zf)))) ?_
   refine ⟨_, rfl, _, rfl, l, ns, k, rfl, hl, fun m g0 g1 => ?_⟩
   change TSem _ (_ :: _) _ _ _
   generalize hL1 : Expr.List (Expr.Constant (.int 2) _ _ :: _) _ = L1
   generalize hL2 : Expr.List (Expr.Constant (.int 1) _ _ :: _) _ = L2
   refine Xy (ZA (Vn (Za (YT Yw (pe_litL hL1 rfl) (Zm Yl (pv 2) Zj) (fun _ _ => rfl)) (Za (YT Yw (pe_litL hL2 rfl) (Zm Yl (Zm ZO (pv 2) Zj) Zj) (fun _ _ => rfl)) Zf)))) ?_
   clear hL1 hL2
   refine ⟨by decide, fun q1 hq1 => ?_⟩
   obtain ⟨S, hS1, hS2⟩ := pickI (ns := [2, 2, 3, 4, 10, 64]) (i := m % 6) (Int.emod_nonneg _ (by decide)) (Int.emod_lt_of_pos _ (by decide))
   have hSb : 2 ≤ S ∧ S ≤ 64 := by simp at hS2; omega
   refine ⟨_, rfl, _, _, rfl, rfl, (by show (0 : Int) < 6; decide), _, _, _, .int S, rfl, rfl, SqL.of Zb, hS1, ?_⟩
   refine ⟨by decide, fun q2 hq2 => ?_⟩
   obtain ⟨n, hn1, hn2⟩ := pickI (ns := [1, 2, 3, 4, 5, 6]) (i := m / 6 % 6) (Int.emod_nonneg _ (by decide)) (Int.emod_lt_of_pos _ (by decide))
   have hnb : 1 ≤ n ∧ n ≤ 6 := by simp at hn2; omega
   refine ⟨_, rfl, _, _, rfl, rfl, ⟨by decide, by decide⟩, _, _, rfl, rfl, (by show (0 : Int) < 6; decide), _, _, _, .int n, rfl, rfl, SqL.of Zb, hn1, (by show 2 ≤ sizeLine; decide), fun p hp => ?_⟩
   obtain ⟨n', rfl⟩ : ∃ n' : Nat, n = (n' : Int) := ⟨n.toNat, by omega⟩
   exact kk S n' _ p hSb (by omega) ((Same.upd hq1).trans ((Same.upd hq2).trans (Same.upd hp))) Zb
def spTicks (K : W.Frag) : Sp := fun vs H Q _ => ∃ (H0 : Hp) (l : Addr) (ns : List Int) (k : Int) (q dw dr : Addr) (v : Vw) (j : Nat), vs = [.ref l, .int k, .ref q] ∧ SqL K H l (ns.map V.int) ∧ Same H0 H ∧ Wld H0 q dw dr v ∧ LOk j v ∧
 ∀ (H0' H' : Hp) (t : Int), Fr [] H0 H H0' H' → 0 ≤ t → t ≤ 10000000000000 → Q (.int t) H'
theorem sc__law_ticks : FnScope ["_law_script", "_law_k", "_law_world", "_law_number", "_law_span", "_law_j", "_law_some"] ["_law_script", "_law_k", "_law_world"] (Ze Yv) := Zr
set_option maxHeartbeats 2000000 in
theorem Ty (T : Txt K mg a) : FnOk P w K mg base (CXe P w) 3 a.f__law_ticks a.fd__law_ticks ["_law_script", "_law_k", "_law_world"] (spTicks K) := by
 have G__law_mix := XG (P := P) (w := w) (base := base) T
 refine T.F__law_ticks.okN sc__law_ticks (fun vs H Q E h => ?_) (fun cdv A' outer s H vs Q E hr h => ?_)
 · obtain ⟨H0, l, ns, k, q, dw, dr, v, j, rfl, _⟩ := h
   rfl
 · obtain ⟨H0, l, ns, k, q, dw, dr, v, j, rfl, hl, s0, ⟨tw, tr, w0⟩, lo, kk⟩ := h
   have hu := Vj hr
   have w1 := w0.up s0
   obtain ⟨a1, a2⟩ := lo.sl
   refine ⟨_, YZ, ?_⟩
   refine Zz (Zs (i := 3) sc__law_ticks.nd rfl (Or.inl rfl) (Zu G__law_mix (hr.mono (by decide)) (by rfl) T.f__law_mix T.kp__law_mix T.B__law_mix .nil ZC (Za (pv 0) (Za (pv 1) Zf)))) ?_
   refine ⟨_, rfl, _, rfl, l, ns, k, rfl, hl, fun m g0 g1 => ?_⟩
   refine Zz (Zs (i := 4) sc__law_ticks.nd rfl (Or.inl rfl) Zj) ?_
   refine Zz (XE PassesOwn.never rfl (XZ rfl T.b_range (Za (Zm Yl (Zm ZO (pv 3) Zj) Zj) Zf)) (Ym (i := 5) sc__law_ticks.nd rfl (Or.inl rfl)) (Zi (Zs (i := 4) sc__law_ticks.nd rfl (Or.inl rfl) (Zm YY (pv 4) (Yy hu (pv 2) Yc (fun _ _ => rfl)))))) ?_
   have e3 := Int.emod_nonneg (m / 8) (b := 7) (by omega)
   have e4 := Int.emod_lt_of_pos (m / 8) (b := 7) (by omega)
   refine ⟨_, rfl, _, _, rfl, rfl, ⟨by decide, by decide⟩, _, _, rfl, rfl, (by show (0 : Int) < 7; decide), _, rfl, (by omega), (by omega), ?_⟩
   refine Vc (lo := 0) (n := (m / 8 % 7).toNat) (fun i σ Hi => ∃ x, σ = [some (.ref l), some (.int k), some (.ref q), some (.int m), some (.int (v.S ^ i)), x, none] ∧ Hi = H) ⟨none, by rw [Int.pow_zero]; rfl, rfl⟩ ?_ ?_
   · rintro i σ Hi hi ⟨x, rfl, rfl⟩
     obtain ⟨z1, z2⟩ := Xd a1 a2 (i := i) (by omega)
     refine ⟨_, rfl, _, rfl, _, _, rfl, w1.gSlots, _, _, rfl, rfl, .inl ⟨by omega, Int.lt_of_le_of_lt z2 (by decide)⟩, some (.int (0 + (i : Int))), ?_, rfl⟩
     rw [Int.pow_succ]
     rfl
   · rintro σ Hi ⟨x5, rfl, rfl⟩
     obtain ⟨z1, z2⟩ := Xd a1 a2 (i := (m / 8 % 7).toNat) (by omega)
     have z3 : v.S ^ (m / 8 % 7).toNat ≤ 68719476736 := pow6 a1 a2 (by omega)
     generalize v.S ^ (m / 8 % 7).toNat = sp at z1 z2 z3
     refine Zz (Zs (i := 6) sc__law_ticks.nd rfl (Or.inl rfl) (YX (Za (Zm Yl (Zm ZO (pv 3) Zj) Zj) (Za (pv 4) (Za (Zm VT (pv 4) Zj) (Za (Zm Ye (pv 4) Zj) (Za (Zm Yl (Zm ZO (pv 3) Zj) Zj) (Za (Zm Yl (Zm ZO (pv 3) Zj) (Zm YY (pv 4) Zj)) Zf)))))))) ?_
     have f1 := Int.emod_nonneg (m / 64) (b := sp * 3) (by omega)
     have f2 := Int.emod_lt_of_pos (m / 64) (b := sp * 3) (by omega)
     refine ⟨_, rfl, _, _, rfl, rfl, ⟨by decide, by decide⟩, _, _, rfl, rfl, (by show (0 : Int) < 5; decide), _, rfl, _, rfl, _, _, rfl, rfl, _, rfl, _, _, rfl, rfl, _, rfl, _, _, rfl, rfl, ⟨by decide, by decide⟩, _, _, rfl, rfl, (by show (0 : Int) < 200; decide), _, rfl, _, _, rfl, rfl, ⟨by decide, by decide⟩, _, rfl, _, _, rfl, rfl, .inr ⟨by decide, by decide⟩, _, _, rfl, rfl, (by show (0 : Int) < sp * 3; omega), (by show 6 ≤ sizeLine; decide), fun q1 hq1 => ?_⟩
     refine Xy (ZA (YT Yw (Zm UW (pv 6) (YX (Za (Zm Yl (Zm ZO (pv 3) Zj) Zj) (Za Zj Zf)))) (Zm Yl (pv 3) Zj) (fun _ _ => rfl))) ?_
     refine ⟨_, rfl, _, rfl, _, _, rfl, rfl, ⟨by decide, by decide⟩, _, _, rfl, rfl, (by show (0 : Int) < 20; decide), (by show 2 ≤ sizeLine; decide), fun q2 hq2 => ?_⟩
     have n12 : q1 ≠ q2 := fun z => by rw [← z, Zb] at hq2; cases hq2
     refine ⟨_, _, _, _, rfl, rfl, by rw [Zc n12]; exact Zb, Zb, (by show 6 + 2 ≤ sizeLine; decide), fun q3 hq3 => ?_⟩
     obtain ⟨tk, ht1, ht2⟩ := pickI (ns := [m / 64 % 5, sp, sp - 1, sp + 1, m / 64 % 200, m / 64 % (sp * 3), m / 64 % 20, 10000000000000]) (i := m % 8) (Int.emod_nonneg _ (by decide)) (Int.emod_lt_of_pos _ (by decide))
     have htk : 0 ≤ tk ∧ tk ≤ 10000000000000 := by
       simp at ht2
       omega
     refine ⟨_, rfl, _, _, rfl, rfl, (by show (0 : Int) < 8; decide), _, _, _, .int tk, rfl, rfl, SqL.of Zb, ht1, ?_⟩
     exact kk _ _ tk ((Fr.new s0 hq1).trans ((Fr.new (Vt s0 _ _) hq2).trans (Fr.new (Vt (Vt s0 _ _) _ _) hq3))) htk.1 htk.2
end Tk
end
section
namespace So
open PySem PyProof.Rows
section
variable {prog : Program} {w : World} {A : Around} {E : Value → Shared → Prop} {s : Shared} {rk : Keyed → Int} {U : Keyed → Prop} {knd : SortKind}
def Cmp (prog : Program) (w : World) (A : Around) (E : Value → Shared → Prop) (s : Shared) (rk : Keyed → Int) (U : Keyed → Prop) (knd : SortKind) : Prop :=
 ∀ (x y : Keyed) (st : SortSt) (Q : Option Bool → SortSt → Prop), U x → U y → kindOf st = knd → Q (some (decide (rk x < rk y))) st → wpS (model prog w) A E s (lt' x y) Q st
def R (rk : Keyed → Int) (xs : Array Keyed) (i : Nat) : Int := match xs[i]? with
 | some p => rk p
 | none => 0
def Seg (rk : Keyed → Int) (xs : Array Keyed) (i j : Nat) : Prop := ∀ p q, i ≤ p → p ≤ q → q < j → R rk xs p ≤ R rk xs q
structure Ok (rk : Keyed → Int) (U : Keyed → Prop) (knd : SortKind) (xs0 : Array Keyed) (st : SortSt) : Prop where
 kind : kindOf st = knd
 failed : failedOf st = none
 perm : (arrOf st).Perm xs0
structure Base (rk : Keyed → Int) (U : Keyed → Prop) (xs0 : Array Keyed) : Prop where
 all : ∀ x, x ∈ xs0 → U x
 dis : (xs0.toList.map rk).Nodup
variable {xs0 : Array Keyed}
theorem Ok.size {st : SortSt} (o : Ok rk U knd xs0 st) : (arrOf st).size = xs0.size := o.perm.size_eq
theorem Ok.at {st : SortSt} (b : Base rk U xs0) (o : Ok rk U knd xs0 st) {i : Nat} (hi : i < xs0.size) : ∃ x, (arrOf st)[i]? = some x ∧ U x ∧ R rk (arrOf st) i = rk x := by
 have h : i < (arrOf st).size := by rw [o.size]; exact hi
 refine ⟨(arrOf st)[i], by simp [h], b.all _ (o.perm.mem_iff.mp (Array.getElem_mem h)), ?_⟩
 unfold R
 rw [show (arrOf st)[i]? = some (arrOf st)[i] by simp [h]]
theorem Ok.ne {st : SortSt} (b : Base rk U xs0) (o : Ok rk U knd xs0 st) {i j : Nat} (hi : i < xs0.size) (hj : j < xs0.size) (h : R rk (arrOf st) i = R rk (arrOf st) j) : i = j := by
 have hs := o.size
 have nd : ((arrOf st).toList.map rk).Nodup := (o.perm.toList.map rk).nodup_iff.mpr b.dis
 have a1 : ((arrOf st).toList.map rk)[i]? = some (R rk (arrOf st) i) := by
   obtain ⟨x, h1, _, h2⟩ := o.at b hi
   rw [List.getElem?_map, Array.getElem?_toList, h1, h2]
   rfl
 have a2 : ((arrOf st).toList.map rk)[j]? = some (R rk (arrOf st) j) := by
   obtain ⟨x, h1, _, h2⟩ := o.at b hj
   rw [List.getElem?_map, Array.getElem?_toList, h1, h2]
   rfl
 rw [h] at a1
 exact (List.getElem?_inj (List.getElem?_eq_some_iff.mp a1).1 nd).mp (a1.trans a2.symm)
theorem XW (c : Cmp prog w A E s rk U knd) (b : Base rk U xs0) {st : SortSt} (o : Ok rk U knd xs0 st) {i j : Nat} {Q : Option Bool → SortSt → Prop} (hi : i < xs0.size) (hj : j < xs0.size) (h : Q (some (decide (R rk (arrOf st) i < R rk (arrOf st) j))) st) :
   wpS (model prog w) A E s (ltAt' i j) Q st := by
 obtain ⟨x, h1, h2, h3⟩ := o.at b hi
 obtain ⟨y, g1, g2, g3⟩ := o.at b hj
 rw [ltAt'_eq]
 refine wpS_bind (wpS_get ?_)
 dsimp only
 rw [elem'_eq, elem'_eq, h1, g1]
 refine wpS_bind (wpS_pure (wpS_bind (wpS_pure (c x y st Q h2 g2 o.kind ?_))))
 rw [← h3, ← g3]
 exact h
theorem R_mirror {xs : Array Keyed} {i j : Nat} (hj : j ≤ xs.size) (k : Nat) : R rk (mirror xs i j ((j - i) / 2)) k = if i ≤ k ∧ k < j then R rk xs (i + j - 1 - k) else R rk xs k := by
 have e := getElem?_mirror_all (i := i) hj k
 unfold R
 rw [e]
 by_cases h : i ≤ k ∧ k < j
 · rw [if_pos h, if_pos h]
 · rw [if_neg h, if_neg h]
theorem Seg.one {xs : Array Keyed} {i : Nat} : Seg rk xs i (i + 1) := fun p q h1 h2 h3 => by
 have e : p = q := by omega
 rw [e]
 exact Int.le_refl _
def Out (i j : Nat) (xs ys : Array Keyed) : Prop := ∀ k, k < i ∨ j ≤ k → ys[k]? = xs[k]?
theorem Out.R {i j k : Nat} {xs ys : Array Keyed} (o : Out i j xs ys) (h : k < i ∨ j ≤ k) : R rk ys k = R rk xs k := by unfold So.R; rw [o k h]
theorem wpS_run (c : Cmp prog w A E s rk U knd) (b : Base rk U xs0) {st : SortSt} (o : Ok rk U knd xs0 st) {lo nrem : Nat} {Q : Option Nat → SortSt → Prop} (h1 : 1 ≤ nrem) (hz : lo + nrem ≤ xs0.size)
   (h : ∀ m ys, 1 ≤ m → m ≤ nrem → ys.Perm (arrOf st) → Seg rk ys lo (lo + m) → Out lo (lo + m) (arrOf st) ys → Q (some m) (setArr st ys)) : wpS (model prog w) A E s (countRun' lo nrem) Q st := by
 rw [countRun'_eq]
 refine wpS_bind (wpS_mono (wpS_forRange (I := fun i c st' => st' = st ∧ c = (none, i) ∧ Seg rk (arrOf st) lo (lo + i)) (Q := fun c st' => st' = st ∧ ∃ n, c = (none, n) ∧ 1 ≤ n ∧ n ≤ nrem ∧ Seg rk (arrOf st) lo (lo + n) ∧ (n < nrem → R rk (arrOf st) (lo + n) < R rk (arrOf st) (lo + n - 1))) ?s1 ?e1 ⟨rfl, rfl, Seg.one⟩) ?p1)
 case e1 =>
   rintro x st' ⟨rfl, rfl, hs⟩
   have e : max 1 nrem = nrem := by omega
   rw [e] at hs ⊢
   exact ⟨rfl, nrem, rfl, h1, Nat.le_refl _, hs, fun z => by omega⟩
 case s1 =>
   rintro i x st' hi1 hi2 ⟨rfl, rfl, hs⟩
   refine wpS_bind (XW c b o (by omega) (by omega) ?_)
   dsimp only
   by_cases hc : R rk (arrOf st') (lo + i) < R rk (arrOf st') (lo + i - 1)
   · rw [decide_eq_true hc, if_pos rfl]
     exact wpS_pure ⟨rfl, i, rfl, hi1, by omega, hs, fun _ => hc⟩
   · rw [decide_eq_false hc, if_neg (by simp)]
     refine wpS_pure ⟨rfl, rfl, fun p q hp hpq hq => ?_⟩
     by_cases e : q = lo + i
     · by_cases e2 : p = q
       · rw [e2]; exact Int.le_refl _
       · have := hs p (lo + i - 1) hp (by omega) (by omega)
         rw [e]
         omega
     · exact hs p q hp hpq (by omega)
 case p1 =>
   rintro x st' ⟨rfl, n, rfl, n1, n2, hs, hd⟩
   dsimp only
   have same : ∀ m, 1 ≤ m → m ≤ nrem → Seg rk (arrOf st') lo (lo + m) → Q (some m) st' := fun m m1 m2 hm => h m (arrOf st') m1 m2 (Array.Perm.refl _) hm fun k _ => rfl
   by_cases hn : n = nrem
   · rw [if_pos (by simpa using hn)]
     exact wpS_pure (same n n1 n2 hs)
   rw [if_neg (by simpa using hn)]
   by_cases hn1 : n > 1
   · rw [if_pos hn1]
     refine wpS_bind (XW c b o (by omega) (by omega) ?_)
     have rose : R rk (arrOf st') lo < R rk (arrOf st') (lo + n - 1) := by
       have h2 := hs lo (lo + n - 1) (Nat.le_refl _) (by omega) (by omega)
       have h3 : R rk (arrOf st') lo ≠ R rk (arrOf st') (lo + n - 1) := fun e => by
         have := o.ne b (i := lo) (j := lo + n - 1) (by omega) (by omega) e
         omega
       omega
     rw [decide_eq_true rose]
     dsimp only
     rw [if_pos rfl]
     exact wpS_pure (same n n1 n2 hs)
   · rw [if_neg hn1]
     have e1 : n = 1 := by omega
     subst e1
     have hd1 := hd (by omega)
     refine wpS_bind (wpS_lift (wpAny_rule ⟨rfl, ?_⟩))
     refine wpS_bind (wpS_mono (wpS_forRange (I := fun i c st2 => st2 = st' ∧ c = (none, i, 0) ∧ ∀ p q, lo ≤ p → p ≤ q → q < lo + i → R rk (arrOf st') q ≤ R rk (arrOf st') p) (Q := fun c st2 => st2 = st' ∧ ∃ n, c = (none, n, 0) ∧ 2 ≤ n ∧ n ≤ nrem ∧ ∀ p q, lo ≤ p → p ≤ q → q < lo + n → R rk (arrOf st') q ≤ R rk (arrOf st') p) ?s2 ?e2 ⟨rfl, rfl, fun p q hp hpq hq => ?b2⟩) ?p2)
     case b2 =>
       by_cases e : p = q
       · rw [e]; exact Int.le_refl _
       · have ep : p = lo := by omega
         have eq : q = lo + 1 := by omega
         rw [ep, eq]
         have : lo + 1 - 1 = lo := by omega
         rw [this] at hd1
         omega
     case e2 =>
       rintro x st2 ⟨rfl, rfl, hx⟩
       have e : max (1 + 1) nrem = nrem := by omega
       rw [e] at hx ⊢
       exact ⟨rfl, nrem, rfl, by omega, Nat.le_refl _, hx⟩
     case s2 =>
       rintro i x st2 hi1 hi2 ⟨rfl, rfl, hx⟩
       dsimp only
       refine wpS_bind (XW c b o (by omega) (by omega) ?_)
       dsimp only
       by_cases hc : R rk (arrOf st2) (lo + i) < R rk (arrOf st2) (lo + i - 1)
       · rw [decide_eq_true hc, if_pos rfl, if_neg (by simp)]
         refine wpS_pure ⟨rfl, rfl, fun p q hp hpq hq => ?_⟩
         by_cases e : q = lo + i
         · by_cases e2 : p = q
           · rw [e2]; exact Int.le_refl _
           · have := hx p (lo + i - 1) hp (by omega) (by omega)
             rw [e]
             omega
         · exact hx p q hp hpq (by omega)
       · rw [decide_eq_false hc, if_neg (by simp)]
         have h3 : R rk (arrOf st2) (lo + i) ≠ R rk (arrOf st2) (lo + i - 1) := fun e => by
           have := o.ne b (i := lo + i) (j := lo + i - 1) (by omega) (by omega) e
           omega
         refine wpS_bind (XW c b o (by omega) (by omega) ?_)
         dsimp only
         rw [decide_eq_true (show R rk (arrOf st2) (lo + i - 1) < R rk (arrOf st2) (lo + i) by omega), if_pos rfl]
         exact wpS_pure ⟨rfl, i, rfl, by omega, by omega, hx⟩
     case p2 =>
       rintro x st2 ⟨rfl, n, rfl, m1, m2, hx⟩
       dsimp only
       rw [if_neg (by simp)]
       refine wpS_bind (wpS_reverse ?_)
       have hsz : lo + n ≤ (arrOf st2).size := by rw [o.size]; omega
       have mp : (mirror (arrOf st2) lo (lo + n) ((lo + n - lo) / 2)).Perm (arrOf st2) := mirror_perm _ _ _ _
       have om : Out lo (lo + n) (arrOf st2) (mirror (arrOf st2) lo (lo + n) ((lo + n - lo) / 2)) := fun k hk => by rw [getElem?_mirror_all hsz k, if_neg (by omega)]
       have sg : Seg rk (mirror (arrOf st2) lo (lo + n) ((lo + n - lo) / 2)) lo (lo + n) := fun p q hp hpq hq => by
         rw [R_mirror hsz, R_mirror hsz, if_pos ⟨hp, by omega⟩, if_pos ⟨by omega, hq⟩]
         exact hx _ _ (by omega) (by omega) (by omega)
       generalize mirror (arrOf st2) lo (lo + n) ((lo + n - lo) / 2) = ys at mp om sg
       have o2 : Ok rk U knd xs0 (setArr st2 ys) := ⟨o.kind, o.failed, mp.trans o.perm⟩
       refine wpS_bind (wpS_mono (wpS_forRange (I := fun i c st3 => st3 = setArr st2 ys ∧ c = (none, i) ∧ Seg rk ys lo (lo + i)) (Q := fun c st3 => st3 = setArr st2 ys ∧ ∃ m, c = (none, m) ∧ n ≤ m ∧ m ≤ nrem ∧ Seg rk ys lo (lo + m)) ?s3 ?e3 ⟨rfl, rfl, sg⟩) ?p3)
       case e3 =>
         rintro x st3 ⟨rfl, rfl, hy⟩
         have e : max n nrem = nrem := by omega
         rw [e] at hy ⊢
         exact ⟨rfl, nrem, rfl, m2, Nat.le_refl _, hy⟩
       case s3 =>
         rintro i x st3 hi1 hi2 ⟨rfl, rfl, hy⟩
         refine wpS_bind (XW c b o2 (by omega) (by omega) ?_)
         dsimp only
         by_cases hc : R rk (arrOf (setArr st2 ys)) (lo + i) < R rk (arrOf (setArr st2 ys)) (lo + i - 1)
         · rw [decide_eq_true hc, if_pos rfl]
           exact wpS_pure ⟨rfl, i, rfl, hi1, by omega, hy⟩
         · rw [decide_eq_false hc, if_neg (by simp)]
           refine wpS_pure ⟨rfl, rfl, fun p q hp hpq hq => ?_⟩
           by_cases e : q = lo + i
           · by_cases e2 : p = q
             · rw [e2]; exact Int.le_refl _
             · have h5 := hy p (lo + i - 1) hp (by omega) (by omega)
               have hc' : ¬ R rk ys (lo + i) < R rk ys (lo + i - 1) := hc
               rw [e]
               omega
           · exact hy p q hp hpq (by omega)
       case p3 =>
         rintro x st3 ⟨rfl, m, rfl, k1, k2, hy⟩
         dsimp only
         exact wpS_pure (h m ys (by omega) k2 mp hy fun k hk => om k (by omega))
end
end So
end
section
namespace So
open PySem PyProof.Rows
section
variable {prog : Program} {w : World} {A : Around} {E : Value → Shared → Prop} {s : Shared} {rk : Keyed → Int} {U : Keyed → Prop} {knd : SortKind} {xs0 : Array Keyed}
theorem R_bubble {xs : Array Keyed} {src d : Nat} (hs : src < xs.size) (hd : d ≤ src) (k : Nat) : R rk (bubble xs src d) k = if k = src - d then R rk xs src else if src - d < k ∧ k ≤ src then R rk xs (k - 1) else R rk xs k := by
 have e := getElem?_bubble hs d hd k
 unfold R
 rw [e]
 by_cases h : k = src - d
 · rw [if_pos h, if_pos h]
 · rw [if_neg h, if_neg h]
   by_cases h2 : src - d < k ∧ k ≤ src
   · rw [if_pos h2, if_pos h2]
   · rw [if_neg h2, if_neg h2]
theorem Ok.set {st : SortSt} {ys : Array Keyed} (o : Ok rk U knd xs0 st) (p : ys.Perm (arrOf st)) : Ok rk U knd xs0 (setArr st ys) := ⟨o.kind, o.failed, p.trans o.perm⟩
theorem wpS_bin (c : Cmp prog w A E s rk U knd) (b : Base rk U xs0) {st : SortSt} (o : Ok rk U knd xs0 st) {lo n ok : Nat} {Q : Bool → SortSt → Prop} (hz : lo + n ≤ xs0.size) (hok : ok ≤ n) (hs : Seg rk (arrOf st) lo (lo + ok))
   (h : ∀ ys, ys.Perm (arrOf st) → Seg rk ys lo (lo + n) → Out lo (lo + n) (arrOf st) ys → Q true (setArr st ys)) : wpS (model prog w) A E s (binarySort' lo n ok) Q st := by
 rw [binarySort'_eq]
 refine wpS_bind (wpS_mono (wpS_forRange (I := fun k x st' => x = (none, ()) ∧ ∃ ys, st' = setArr st ys ∧ ys.Perm (arrOf st) ∧ Seg rk ys lo (lo + min k n) ∧ Out lo (lo + n) (arrOf st) ys) (Q := fun x st' => x = (none, ()) ∧ ∃ ys, st' = setArr st ys ∧ ys.Perm (arrOf st) ∧ Seg rk ys lo (lo + n) ∧ Out lo (lo + n) (arrOf st) ys) ?st ?fi ⟨rfl, arrOf st, rfl, Array.Perm.refl _, ?ini, fun _ _ => rfl⟩) ?po)
 case ini =>
   intro p q hp hpq hq
   by_cases h0 : ok = 0
   · have e : p = q := by omega
     rw [e]
     exact Int.le_refl _
   · exact hs p q hp hpq (by omega)
 case fi =>
   rintro x st' ⟨hx, ys, e, p, sg, ou⟩
   refine ⟨hx, ys, e, p, ?_, ou⟩
   rwa [show min (max (max ok 1) n) n = n by omega] at sg
 case po =>
   rintro x st' ⟨rfl, ys, rfl, p, sg, ou⟩
   exact wpS_pure (h ys p sg ou)
 case st =>
   rintro k x st' hk1 hk2 ⟨rfl, ys, rfl, p, sg, ou⟩
   rw [show min k n = k by omega] at sg
   have o2 := o.set p
   have hys : ys.size = xs0.size := by rw [p.size_eq, o.size]
   refine wpS_bind (wpS_mono (wpS_forRange (I := fun i x st2 => st2 = setArr st ys ∧ ∃ l r, x = (none, l, r) ∧ l ≤ r ∧ r ≤ k ∧ r - l ≤ k - i ∧ (∀ i, i < l → R rk ys (lo + i) ≤ R rk ys (lo + k)) ∧ ∀ i, r ≤ i → i < k → R rk ys (lo + k) < R rk ys (lo + i))
     (Q := fun x st2 => st2 = setArr st ys ∧ ∃ l r, x = (none, l, r) ∧ l ≤ k ∧ (∀ i, i < l → R rk ys (lo + i) ≤ R rk ys (lo + k)) ∧ ∀ i, l ≤ i → i < k → R rk ys (lo + k) < R rk ys (lo + i)) ?is ?ie ⟨rfl, 0, k, rfl, by omega, by omega, by omega, fun i hi => by omega, fun i h1 h2 => by omega⟩) ?ip)
   case ie =>
     rintro x st2 ⟨rfl, l, r, rfl, h1, h2, h3, h4, h5⟩
     have e : l = r := by omega
     subst e
     exact ⟨rfl, l, l, rfl, h2, h4, h5⟩
   case is =>
     rintro i x st2 _ hi ⟨rfl, l, r, rfl, h1, h2, h3, h4, h5⟩
     dsimp only
     by_cases hg : l ≥ r
     · rw [if_pos hg]
       have e : l = r := by omega
       subst e
       exact wpS_pure ⟨rfl, l, l, rfl, h2, h4, h5⟩
     · rw [if_neg hg]
       refine wpS_bind (XW c b o2 (by omega) (by omega) ?_)
       by_cases hl : R rk ys (lo + k) < R rk ys (lo + (l + r) / 2)
       · rw [decide_eq_true (show R rk (arrOf (setArr st ys)) (lo + k) < R rk (arrOf (setArr st ys)) (lo + (l + r) / 2) from hl)]
         refine wpS_pure ⟨rfl, l, (l + r) / 2, rfl, by omega, by omega, by omega, h4, fun i a1 a2 => ?_⟩
         have := sg (lo + (l + r) / 2) (lo + i) (by omega) (by omega) (by omega)
         omega
       · rw [decide_eq_false (show ¬ R rk (arrOf (setArr st ys)) (lo + k) < R rk (arrOf (setArr st ys)) (lo + (l + r) / 2) from hl)]
         refine wpS_pure ⟨rfl, (l + r) / 2 + 1, r, rfl, by omega, by omega, by omega, fun i a1 => ?_, h5⟩
         have := sg (lo + i) (lo + (l + r) / 2) (by omega) (by omega) (by omega)
         omega
   case ip =>
     rintro x st2 ⟨rfl, l, r, rfl, hl, h4, h5⟩
     dsimp only
     rw [moveDown'_eq]
     have hk : lo + k < ys.size := by omega
     have ed : lo + k - (lo + l) = k - l := by omega
     refine wpS_bind (wpS_modify (wpS_pure ⟨rfl, bubble ys (lo + k) (lo + k - (lo + l)), rfl, (bubble_perm _ _ _).trans p, ?_, fun j hj => ?_⟩))
     · rw [show min (k + 1) n = k + 1 by omega, ed]
       intro u v hu huv hv
       rw [R_bubble hk (by omega), R_bubble hk (by omega)]
       have e1 : lo + k - (k - l) = lo + l := by omega
       rw [e1]
       have lows : ∀ z, lo ≤ z → z < lo + l → R rk ys z ≤ R rk ys (lo + k) := fun z a1 a2 => by
         have := h4 (z - lo) (by omega)
         rwa [show lo + (z - lo) = z by omega] at this
       have highs : ∀ z, lo + l ≤ z → z < lo + k → R rk ys (lo + k) < R rk ys z := fun z a1 a2 => by
         have := h5 (z - lo) (by omega) (by omega)
         rwa [show lo + (z - lo) = z by omega] at this
       by_cases c1 : u = lo + l
       · rw [if_pos c1]
         by_cases c2 : v = lo + l
         · rw [if_pos c2]; exact Int.le_refl _
         · rw [if_neg c2, if_pos ⟨by omega, by omega⟩]
           have := highs (v - 1) (by omega) (by omega)
           omega
       · rw [if_neg c1]
         by_cases c3 : lo + l < u ∧ u ≤ lo + k
         · rw [if_pos c3, if_neg (by omega), if_pos ⟨by omega, by omega⟩]
           exact sg _ _ (by omega) (by omega) (by omega)
         · rw [if_neg c3]
           by_cases c2 : v = lo + l
           · rw [if_pos c2]
             exact lows u hu (by omega)
           · rw [if_neg c2]
             by_cases c4 : lo + l < v ∧ v ≤ lo + k
             · rw [if_pos c4]
               exact sg _ _ hu (by omega) (by omega)
             · rw [if_neg c4]
               exact sg _ _ hu huv (by omega)
     · rw [getElem?_bubble hk _ (by omega), if_neg (by omega), if_neg (by omega)]
       exact ou j hj
end
end So
end
section
namespace So
open PySem PyProof.Rows
def gal : Bool → Keyed → Array Keyed → Nat → Nat → Nat → StateT SortSt Sem (Option Nat) := sortPriv% PySem.Builtin.gallop
theorem gal_eq (lf : Bool) (ky : Keyed) (ar : Array Keyed) (bs nn ht : Nat) : gal lf ky ar bs nn ht = (do
 let by_ (j : Nat) : StateT SortSt Sem (Option Bool) := do
   let e ← elem' ar (bs + j)
   if lf then lt' e ky else return (← lt' ky e).map (!·)
 let mut la := 0
 let mut of := 1
 let mut l := 0
 let mut h := 0
 let some rt ← by_ ht | return none
 if rt then
   let mx := nn - ht
   for _ in [0:nn] do
     if of ≥ mx then break
     let some mo ← by_ (ht + of) | return none
     if !mo then break
     la := of
     of := 2 * of + 1
   l := ht + la + 1
   h := ht + min of mx
 else
   let mx := ht + 1
   for _ in [0:nn] do
     if of ≥ mx then break
     let some fo ← by_ (ht - of) | return none
     if fo then break
     la := of
     of := 2 * of + 1
   l := ht + 1 - min of mx
   h := ht - la
 for _ in [0:nn] do
   if l ≥ h then break
   let q := l + (h - l) / 2
   let some mo ← by_ q | return none
   if mo then l := q + 1 else h := q
 return some h) := rfl
section
variable {prog : Program} {w : World} {A : Around} {E : Value → Shared → Prop} {s : Shared} {rk : Keyed → Int} {U : Keyed → Prop} {knd : SortKind} {xs0 : Array Keyed}
def Bey (rk : Keyed → Int) (lf : Bool) (ky : Keyed) (ar : Array Keyed) (bs j : Nat) : Prop := if lf = true then R rk ar (bs + j) < rk ky else ¬ rk ky < R rk ar (bs + j)
instance (lf : Bool) (ky : Keyed) (ar : Array Keyed) (bs j : Nat) : Decidable (Bey rk lf ky ar bs j) := by unfold Bey; exact inferInstance
theorem Bey.mono {lf : Bool} {ky : Keyed} {ar : Array Keyed} {bs n i j : Nat} (sg : Seg rk ar bs (bs + n)) (hj : j < n) (hij : i ≤ j) (h : Bey rk lf ky ar bs j) : Bey rk lf ky ar bs i := by
 have := sg (bs + i) (bs + j) (by omega) (by omega) (by omega)
 unfold Bey at *
 cases lf
 · simp only [Bool.false_eq_true, if_false] at h ⊢; omega
 · simp only [if_true] at h ⊢; omega
theorem wpS_bey (c : Cmp prog w A E s rk U knd) {st : SortSt} (hk : kindOf st = knd) {lf : Bool} {ky : Keyed} {ar : Array Keyed} {bs j : Nat} {Q : Option Bool → SortSt → Prop} (uk : U ky) (hj : bs + j < ar.size) (ua : ∀ x, x ∈ ar → U x) (h : Q (some (decide (Bey rk lf ky ar bs j))) st) :
   wpS (model prog w) A E s (do
     let e ← elem' ar (bs + j)
     if lf then lt' e ky else return (← lt' ky e).map (!·)) Q st := by
 have ea : ar[bs + j]? = some ar[bs + j] := by simp [hj]
 have er : R rk ar (bs + j) = rk ar[bs + j] := by unfold R; rw [ea]
 rw [elem'_eq, ea]
 refine wpS_bind (wpS_pure ?_)
 cases lf with
 | true =>
   rw [if_pos rfl]
   refine c _ _ st _ (ua _ (Array.getElem_mem hj)) uk hk ?_
   rw [← er]
   have : decide (R rk ar (bs + j) < rk ky) = decide (Bey rk true ky ar bs j) := by unfold Bey; simp
   rw [this]
   exact h
 | false =>
   rw [if_neg (by simp)]
   refine wpS_bind (c _ _ st _ uk (ua _ (Array.getElem_mem hj)) hk (wpS_pure ?_))
   rw [← er]
   have : (some (decide (rk ky < R rk ar (bs + j)))).map (!·) = some (decide (Bey rk false ky ar bs j)) := by
     unfold Bey
     simp only [Option.map_some, Bool.false_eq_true, if_false]
     by_cases hh : rk ky < R rk ar (bs + j) <;> simp [hh]
   rw [this]
   exact h
theorem XX (c : Cmp prog w A E s rk U knd) {st : SortSt} (hk : kindOf st = knd) {lf : Bool} {ky : Keyed} {ar : Array Keyed} {bs n ht : Nat} {Q : Option Nat → SortSt → Prop} (uk : U ky) (hz : bs + n ≤ ar.size) (ua : ∀ x, x ∈ ar → U x) (sg : Seg rk ar bs (bs + n)) (hh : ht < n)
   (h : ∀ r, r ≤ n → (∀ i, i < r → Bey rk lf ky ar bs i) → (∀ i, r ≤ i → i < n → ¬ Bey rk lf ky ar bs i) → Q (some r) st) : wpS (model prog w) A E s (gal lf ky ar bs n ht) Q st := by
 rw [gal_eq]
 have at_ : ∀ {j : Nat} {Q' : Option Bool → SortSt → Prop}, j < n → Q' (some (decide (Bey rk lf ky ar bs j))) st → wpS (model prog w) A E s (do
     let e ← elem' ar (bs + j)
     if lf then lt' e ky else return (← lt' ky e).map (!·)) Q' st := fun hj q => wpS_bey c hk uk (by omega) ua q
 dsimp only
 refine wpS_bind (at_ hh ?_)
 by_cases hb : Bey rk lf ky ar bs ht
 · rw [decide_eq_true hb]
   dsimp only
   rw [if_pos rfl]
   refine wpS_bind (wpS_mono (wpS_forRange (I := fun i x st2 => st = st2 ∧ ∃ la of, x = (none, la, of) ∧ i + 1 ≤ of ∧ la < of ∧ la < n - ht ∧ Bey rk lf ky ar bs (ht + la))
     (Q := fun x st2 => st = st2 ∧ ∃ la of, x = (none, la, of) ∧ la < of ∧ la < n - ht ∧ Bey rk lf ky ar bs (ht + la) ∧ (of < n - ht → ¬ Bey rk lf ky ar bs (ht + of))) ?rs ?re ⟨rfl, 0, 1, rfl, by omega, by omega, by omega, hb⟩) ?rp)
   case re =>
     rintro x st2 ⟨rfl, la, of, rfl, a1, a2, a3, a4⟩
     exact ⟨rfl, la, of, rfl, a2, a3, a4, fun z => by omega⟩
   case rs =>
     rintro i x st2 _ hi ⟨rfl, la, of, rfl, a1, a2, a3, a4⟩
     dsimp only
     by_cases hg : of ≥ n - ht
     · rw [if_pos hg]
       exact wpS_pure ⟨rfl, la, of, rfl, a2, a3, a4, fun z => by omega⟩
     · rw [if_neg hg]
       refine wpS_bind (at_ (by omega) ?_)
       by_cases hm : Bey rk lf ky ar bs (ht + of)
       · rw [decide_eq_true hm]
         exact wpS_pure ⟨rfl, of, 2 * of + 1, rfl, by omega, by omega, by omega, hm⟩
       · rw [decide_eq_false hm]
         exact wpS_pure ⟨rfl, la, of, rfl, a2, a3, a4, fun _ => hm⟩
   rintro x st2 ⟨rfl, la, of, rfl, a2, a3, a4, a5⟩
   dsimp only
   have L1 : ht + la + 1 ≤ ht + min of (n - ht) := by omega
   have L2 : ht + min of (n - ht) ≤ n := by omega
   have L3 : ∀ i, i < ht + la + 1 → Bey rk lf ky ar bs i := fun i hi => a4.mono sg (by omega) (by omega)
   have L4 : ∀ i, ht + min of (n - ht) ≤ i → i < n → ¬ Bey rk lf ky ar bs i := fun i h1 h2 q => by
     have hlt : of < n - ht := by omega
     exact a5 hlt (q.mono sg h2 (by omega))
   refine wpS_bind (wpS_mono (wpS_forRange (I := fun i x st2 => st = st2 ∧ ∃ l h, x = (none, l, h) ∧ l ≤ h ∧ h ≤ n ∧ h - l ≤ n - i ∧ (∀ i, i < l → Bey rk lf ky ar bs i) ∧ ∀ i, h ≤ i → i < n → ¬ Bey rk lf ky ar bs i)
     (Q := fun x st2 => st = st2 ∧ ∃ l, x = (none, l, l) ∧ l ≤ n ∧ (∀ i, i < l → Bey rk lf ky ar bs i) ∧ ∀ i, l ≤ i → i < n → ¬ Bey rk lf ky ar bs i) ?ts ?te ⟨rfl, _, _, rfl, L1, L2, by omega, L3, L4⟩) ?tp)
   case te =>
     rintro x st2 ⟨rfl, l, h', rfl, a1, a2, a3, a4, a5⟩
     have e : l = h' := by omega
     subst e
     exact ⟨rfl, l, rfl, a2, a4, a5⟩
   case tp =>
     rintro x st2 ⟨rfl, l, rfl, a2, a4, a5⟩
     exact wpS_pure (h l a2 a4 a5)
   case ts =>
     rintro i x st2 _ hi ⟨rfl, l, h', rfl, a1, a2, a3, a4, a5⟩
     dsimp only
     by_cases hg : l ≥ h'
     · rw [if_pos hg]
       have e : l = h' := by omega
       subst e
       exact wpS_pure ⟨rfl, l, rfl, a2, a4, a5⟩
     · rw [if_neg hg]
       refine wpS_bind (at_ (by omega) ?_)
       by_cases hm : Bey rk lf ky ar bs (l + (h' - l) / 2)
       · rw [decide_eq_true hm]
         refine wpS_pure ⟨rfl, _, h', rfl, by omega, a2, by omega, fun j hj => hm.mono sg (by omega) (by omega), a5⟩
       · rw [decide_eq_false hm]
         refine wpS_pure ⟨rfl, l, _, rfl, by omega, by omega, by omega, a4, fun j h1 h2 q => hm (q.mono sg h2 h1)⟩
 · rw [decide_eq_false hb]
   dsimp only
   rw [if_neg (by simp)]
   refine wpS_bind (wpS_mono (wpS_forRange (I := fun i x st2 => st = st2 ∧ ∃ la of, x = (none, la, of) ∧ i + 1 ≤ of ∧ la < of ∧ la < ht + 1 ∧ ¬ Bey rk lf ky ar bs (ht - la))
     (Q := fun x st2 => st = st2 ∧ ∃ la of, x = (none, la, of) ∧ la < of ∧ la < ht + 1 ∧ ¬ Bey rk lf ky ar bs (ht - la) ∧ (of < ht + 1 → Bey rk lf ky ar bs (ht - of))) ?us ?ue ⟨rfl, 0, 1, rfl, by omega, by omega, by omega, hb⟩) ?up)
   case ue =>
     rintro x st2 ⟨rfl, la, of, rfl, a1, a2, a3, a4⟩
     exact ⟨rfl, la, of, rfl, a2, a3, a4, fun z => by omega⟩
   case us =>
     rintro i x st2 _ hi ⟨rfl, la, of, rfl, a1, a2, a3, a4⟩
     dsimp only
     by_cases hg : of ≥ ht + 1
     · rw [if_pos hg]
       exact wpS_pure ⟨rfl, la, of, rfl, a2, a3, a4, fun z => by omega⟩
     · rw [if_neg hg]
       refine wpS_bind (at_ (by omega) ?_)
       by_cases hm : Bey rk lf ky ar bs (ht - of)
       · rw [decide_eq_true hm]
         exact wpS_pure ⟨rfl, la, of, rfl, a2, a3, a4, fun _ => hm⟩
       · rw [decide_eq_false hm]
         exact wpS_pure ⟨rfl, of, 2 * of + 1, rfl, by omega, by omega, by omega, hm⟩
   rintro x st2 ⟨rfl, la, of, rfl, a2, a3, a4, a5⟩
   dsimp only
   have L1 : ht + 1 - min of (ht + 1) ≤ ht - la := by omega
   have L2 : ht - la ≤ n := by omega
   have L3 : ∀ i, i < ht + 1 - min of (ht + 1) → Bey rk lf ky ar bs i := fun i hi => (a5 (by omega)).mono sg (by omega) (by omega)
   have L4 : ∀ i, ht - la ≤ i → i < n → ¬ Bey rk lf ky ar bs i := fun i h1 h2 q => a4 (q.mono sg h2 h1)
   refine wpS_bind (wpS_mono (wpS_forRange (I := fun i x st2 => st = st2 ∧ ∃ l h, x = (none, l, h) ∧ l ≤ h ∧ h ≤ n ∧ h - l ≤ n - i ∧ (∀ i, i < l → Bey rk lf ky ar bs i) ∧ ∀ i, h ≤ i → i < n → ¬ Bey rk lf ky ar bs i)
     (Q := fun x st2 => st = st2 ∧ ∃ l, x = (none, l, l) ∧ l ≤ n ∧ (∀ i, i < l → Bey rk lf ky ar bs i) ∧ ∀ i, l ≤ i → i < n → ¬ Bey rk lf ky ar bs i) ?vs ?ve ⟨rfl, _, _, rfl, L1, L2, by omega, L3, L4⟩) ?vp)
   case ve =>
     rintro x st2 ⟨rfl, l, h', rfl, a1, a2, a3, a4, a5⟩
     have e : l = h' := by omega
     subst e
     exact ⟨rfl, l, rfl, a2, a4, a5⟩
   case vp =>
     rintro x st2 ⟨rfl, l, rfl, a2, a4, a5⟩
     exact wpS_pure (h l a2 a4 a5)
   case vs =>
     rintro i x st2 _ hi ⟨rfl, l, h', rfl, a1, a2, a3, a4, a5⟩
     dsimp only
     by_cases hg : l ≥ h'
     · rw [if_pos hg]
       have e : l = h' := by omega
       subst e
       exact wpS_pure ⟨rfl, l, rfl, a2, a4, a5⟩
     · rw [if_neg hg]
       refine wpS_bind (at_ (by omega) ?_)
       by_cases hm : Bey rk lf ky ar bs (l + (h' - l) / 2)
       · rw [decide_eq_true hm]
         refine wpS_pure ⟨rfl, _, h', rfl, by omega, a2, by omega, fun j hj => hm.mono sg (by omega) (by omega), a5⟩
       · rw [decide_eq_false hm]
         refine wpS_pure ⟨rfl, l, _, rfl, by omega, by omega, by omega, a4, fun j h1 h2 q => hm (q.mono sg h2 h1)⟩
end
end So
end
section
namespace So
open PySem PyProof.Rows
section
variable {rk : Keyed → Int} {la lb o : List Keyed} {ia ib : Nat}
abbrev Srt (rk : Keyed → Int) (l : List Keyed) : Prop := l.Pairwise fun x y => rk x ≤ rk y
structure MG (rk : Keyed → Int) (la lb o : List Keyed) (ia ib : Nat) : Prop where
 perm : (o ++ (la.drop ia ++ lb.drop ib)).Perm (la ++ lb)
 srt : Srt rk o
 low : ∀ x ∈ o, ∀ y, y ∈ la.drop ia ∨ y ∈ lb.drop ib → rk x ≤ rk y
def Mrg (rk : Keyed → Int) (la lb r : List Keyed) : Prop := r.Perm (la ++ lb) ∧ Srt rk r
theorem Ug {l : List Keyed} {k : Nat} {x : Keyed} (h : x ∈ l.take k) : x ∈ l := List.mem_of_mem_take h
theorem mem_of_drop {l : List Keyed} {k : Nat} {x : Keyed} (h : x ∈ l.drop k) : x ∈ l := List.mem_of_mem_drop h
theorem MG.takeA (m : MG rk la lb o ia ib) (sa : Srt rk la) (k : Nat) (h : ∀ x ∈ (la.drop ia).take k, ∀ y ∈ lb.drop ib, rk x ≤ rk y) : MG rk la lb (o ++ (la.drop ia).take k) (ia + k) ib := by
 have hs : Srt rk (la.drop ia) := sa.sublist (List.drop_sublist _ _)
 have e : la.drop ia = (la.drop ia).take k ++ la.drop (ia + k) := by
   rw [← List.drop_drop]
   exact (List.take_append_drop k (la.drop ia)).symm
 refine ⟨?_, ?_, fun x hx y hy => ?_⟩
 · have := m.perm
   rw [e] at this
   simpa [List.append_assoc] using this
 · refine List.pairwise_append.mpr ⟨m.srt, hs.sublist (List.take_sublist _ _), fun x hx y hy => m.low x hx y (.inl (Ug hy))⟩
 · rcases List.mem_append.mp hx with hx | hx
   · refine m.low x hx y ?_
     rcases hy with hy | hy
     · left; rw [e]; exact List.mem_append_right _ hy
     · exact .inr hy
   · rcases hy with hy | hy
     · rw [e] at hs
       exact (List.pairwise_append.mp hs).2.2 x hx y hy
     · exact h x hx y hy
theorem MG.takeB (m : MG rk la lb o ia ib) (sb : Srt rk lb) (k : Nat) (h : ∀ x ∈ (lb.drop ib).take k, ∀ y ∈ la.drop ia, rk x ≤ rk y) : MG rk la lb (o ++ (lb.drop ib).take k) ia (ib + k) := by
 have hs : Srt rk (lb.drop ib) := sb.sublist (List.drop_sublist _ _)
 have e : lb.drop ib = (lb.drop ib).take k ++ lb.drop (ib + k) := by
   rw [← List.drop_drop]
   exact (List.take_append_drop k (lb.drop ib)).symm
 refine ⟨?_, ?_, fun x hx y hy => ?_⟩
 · have p := m.perm
   rw [e] at p
   refine List.Perm.trans ?_ p
   rw [List.append_assoc]
   refine List.Perm.append_left o ?_
   rw [← List.append_assoc, ← List.append_assoc]
   exact List.Perm.append_right _ List.perm_append_comm
 · refine List.pairwise_append.mpr ⟨m.srt, hs.sublist (List.take_sublist _ _), fun x hx y hy => m.low x hx y (.inr (Ug hy))⟩
 · rcases List.mem_append.mp hx with hx | hx
   · refine m.low x hx y ?_
     rcases hy with hy | hy
     · exact .inl hy
     · right; rw [e]; exact List.mem_append_right _ hy
   · rcases hy with hy | hy
     · exact h x hx y hy
     · rw [e] at hs
       exact (List.pairwise_append.mp hs).2.2 x hx y hy
theorem Vs {l : List Keyed} {i : Nat} {x : Keyed} (h : l[i]? = some x) : (l.drop i).take 1 = [x] := by
 have hi := (List.getElem?_eq_some_iff.mp h).1
 rw [List.drop_eq_getElem_cons hi]
 simp [(List.getElem?_eq_some_iff.mp h).2]
theorem MG.endB (m : MG rk la lb o ia ib) (sa : Srt rk la) (h : lb.length ≤ ib) : Mrg rk la lb (o ++ la.drop ia ++ lb.drop ib) := by
 have e : lb.drop ib = [] := List.drop_eq_nil_of_le h
 refine ⟨by rw [List.append_assoc]; exact m.perm, ?_⟩
 rw [e, List.append_nil]
 exact List.pairwise_append.mpr ⟨m.srt, sa.sublist (List.drop_sublist _ _), fun x hx y hy => m.low x hx y (.inl hy)⟩
theorem MG.endA (m : MG rk la lb o ia ib) (sb : Srt rk lb) (h : la.length ≤ ia) : Mrg rk la lb (o ++ la.drop ia ++ lb.drop ib) := by
 have e : la.drop ia = [] := List.drop_eq_nil_of_le h
 refine ⟨by rw [List.append_assoc]; exact m.perm, ?_⟩
 rw [e, List.append_nil]
 exact List.pairwise_append.mpr ⟨m.srt, sb.sublist (List.drop_sublist _ _), fun x hx y hy => m.low x hx y (.inr hy)⟩
theorem MG.lastA (m : MG rk la lb o ia ib) (sa : Srt rk la) (sb : Srt rk lb) (mx : ∀ x ∈ la.drop ia, ∀ y ∈ lb, rk y ≤ rk x) : Mrg rk la lb (o ++ lb.drop ib ++ la.drop ia) := by
 refine ⟨?_, ?_⟩
 · rw [List.append_assoc]
   exact (List.Perm.append_left o List.perm_append_comm).trans m.perm
 · rw [List.append_assoc]
   refine List.pairwise_append.mpr ⟨m.srt, List.pairwise_append.mpr ⟨sb.sublist (List.drop_sublist _ _), sa.sublist (List.drop_sublist _ _), fun x hx y hy => mx y hy x (mem_of_drop hx)⟩, fun x hx y hy => m.low x hx y ?_⟩
   rcases List.mem_append.mp hy with hy | hy
   · exact .inr hy
   · exact .inl hy
end
def mlo : Array Keyed → Array Keyed → StateT SortSt Sem (Array Keyed) := sortPriv% PySem.Builtin.mergeLo
def sgl : Nat → StateT SortSt Sem Unit := sortPriv% PySem.Builtin.setMinGallop
theorem Sj (g : Nat) : sgl g = modify fun z => SortSt.mk' (kindOf z) (arrOf z) (pendingOf z) g (failedOf z) := rfl
abbrev S5 := Option (Array Keyed) × Array Keyed × Nat × Nat × Nat × Nat
abbrev S6 := Option (Array Keyed) × Array Keyed × Nat × Nat × Nat × Nat × Nat
abbrev S4 := Option (Array Keyed) × Array Keyed × Nat × Nat × Nat
section
variable (x y : Array Keyed)
def dnL (r : Array Keyed) (i j : Nat) : Array Keyed := r ++ x.extract i x.size ++ y.extract j y.size
def lsL (r : Array Keyed) (i j : Nat) : Array Keyed := r ++ y.extract j y.size ++ x.extract i x.size
def one1 (mg : Nat) (r : Array Keyed) (i j ca cb : Nat) : StateT SortSt Sem (ForInStep S5) := do
 let e ← elem' y j
 let f ← elem' x i
 let o ← lt' e f
 match o with
 | some bw =>
   (if bw = true then
     (do
       let e ← elem' y j
       (if (j + 1 == y.size) = true then pure (.done (some (dnL x y (r.push e) i (j + 1)), r.push e, i, j + 1, 0, cb + 1))
         else (if cb + 1 ≥ mg then pure (.done (none, r.push e, i, j + 1, 0, cb + 1)) else pure (.yield (none, r.push e, i, j + 1, 0, cb + 1)))))
     else
     (do
       let e ← elem' x i
       (if (i + 1 + 1 == x.size) = true then pure (.done (some (lsL x y (r.push e) (i + 1) j), r.push e, i + 1, j, ca + 1, 0))
         else (if ca + 1 ≥ mg then pure (.done (none, r.push e, i + 1, j, ca + 1, 0)) else pure (.yield (none, r.push e, i + 1, j, ca + 1, 0))))))
 | _ => pure (.done (some (dnL x y r i j), r, i, j, ca, cb))
def gr2 (r : Array Keyed) (i j mg k k1 : Nat) : StateT SortSt Sem (ForInStep S6) := do
 let e ← elem' x i
 (if (i + 1 + 1 == x.size) = true then pure (.done (some (lsL x y (r.push e) (i + 1) j), r.push e, i + 1, j, mg, k, k1))
   else (if (decide (k < 7) && decide (k1 < 7)) = true then pure (.done (none, r.push e, i + 1, j, mg, k, k1)) else pure (.yield (none, r.push e, i + 1, j, mg, k, k1))))
def gr1 (r : Array Keyed) (i j mg k cb : Nat) : StateT SortSt Sem (ForInStep S6) := do
 let e ← elem' y j
 (if (j + 1 == y.size) = true then pure (.done (some (dnL x y (r.push e) i (j + 1)), r.push e, i, j + 1, mg, k, cb))
   else
   (do
     let f ← elem' x i
     let o ← gal true f y (j + 1) (y.size - (j + 1)) 0
     match o with
     | some k1 =>
       (if k1 > 0 then
         (if (j + 1 + k1 == y.size) = true then pure (.done (some (dnL x y (r.push e ++ y.extract (j + 1) (j + 1 + k1)) i (j + 1 + k1)), r.push e ++ y.extract (j + 1) (j + 1 + k1), i, j + 1 + k1, mg, k, k1))
           else gr2 x y (r.push e ++ y.extract (j + 1) (j + 1 + k1)) i (j + 1 + k1) mg k k1)
         else gr2 x y (r.push e) i (j + 1) mg k k1)
     | _ => pure (.done (some (dnL x y (r.push e) i (j + 1)), r.push e, i, j + 1, mg, k, cb))))
def gr0 (r : Array Keyed) (i j mg ca cb : Nat) : StateT SortSt Sem (ForInStep S6) := do
 sgl mg
 let e ← elem' y j
 let o ← gal false e x i (x.size - i) 0
 match o with
 | some k =>
   (if k > 0 then
     (if (i + k + 1 == x.size) = true then pure (.done (some (lsL x y (r ++ x.extract i (i + k)) (i + k) j), r ++ x.extract i (i + k), i + k, j, mg, k, cb))
       else (if (i + k == x.size) = true then pure (.done (some (dnL x y (r ++ x.extract i (i + k)) (i + k) j), r ++ x.extract i (i + k), i + k, j, mg, k, cb))
         else gr1 x y (r ++ x.extract i (i + k)) (i + k) j mg k cb))
     else gr1 x y r i j mg k cb)
 | _ => pure (.done (some (dnL x y r i j), r, i, j, mg, ca, cb))
def all1 (z : S4) : StateT SortSt Sem (ForInStep S4) := do
 let a ← forIn [0:x.size + y.size] ((none, z.2.1, z.2.2.1, z.2.2.2.1, 0, 0) : S5) fun _ a => one1 x y z.2.2.2.2 a.2.1 a.2.2.1 a.2.2.2.1 a.2.2.2.2.1 a.2.2.2.2.2
 match a.1 with
 | some r => pure (.done (some r, a.2.1, a.2.2.1, a.2.2.2.1, z.2.2.2.2))
 | none => do
   liftM (rule "list.sort.gallop")
   let b ← forIn [0:x.size + y.size] ((none, a.2.1, a.2.2.1, a.2.2.2.1, z.2.2.2.2 + 1, a.2.2.2.2.1, a.2.2.2.2.2) : S6) fun _ b =>
     if b.2.2.2.2.1 > 1 then gr0 x y b.2.1 b.2.2.1 b.2.2.2.1 (b.2.2.2.2.1 - 1) b.2.2.2.2.2.1 b.2.2.2.2.2.2 else gr0 x y b.2.1 b.2.2.1 b.2.2.2.1 b.2.2.2.2.1 b.2.2.2.2.2.1 b.2.2.2.2.2.2
   match b.1 with
   | some r => pure (.done (some r, b.2.1, b.2.2.1, b.2.2.2.1, b.2.2.2.2.1))
   | none => do
     sgl (b.2.2.2.2.1 + 1)
     pure (.yield (none, b.2.1, b.2.2.1, b.2.2.2.1, b.2.2.2.2.1 + 1))
end
theorem mlo_eq0 (x y : Array Keyed) : mlo x y = (do
 rule "list.sort.merge-lo"
 let tot := x.size + y.size
 let dn (r : Array Keyed) (i j : Nat) := r ++ x.extract i x.size ++ y.extract j y.size
 let ls (r : Array Keyed) (i j : Nat) := r ++ y.extract j y.size ++ x.extract i x.size
 let mut r : Array Keyed := #[← elem' y 0]
 let mut i := 0
 let mut j := 1
 if j == y.size then return dn r i j
 if i + 1 == x.size then return ls r i j
 let mut mg := gallopOf (← get)
 for _ in [0:tot] do
   let mut ca := 0
   let mut cb := 0
   for _ in [0:tot] do
     let some bw ← lt' (← elem' y j) (← elem' x i) | return dn r i j
     if bw then
       r := r.push (← elem' y j); j := j + 1; cb := cb + 1; ca := 0
       if j == y.size then return dn r i j
       if cb ≥ mg then break
     else
       r := r.push (← elem' x i); i := i + 1; ca := ca + 1; cb := 0
       if i + 1 == x.size then return ls r i j
       if ca ≥ mg then break
   rule "list.sort.gallop"
   mg := mg + 1
   for _ in [0:tot] do
     if mg > 1 then mg := mg - 1
     sgl mg
     let some k ← gal false (← elem' y j) x i (x.size - i) 0 | return dn r i j
     ca := k
     if k > 0 then
       r := r ++ x.extract i (i + k); i := i + k
       if i + 1 == x.size then return ls r i j
       if i == x.size then return dn r i j
     r := r.push (← elem' y j); j := j + 1
     if j == y.size then return dn r i j
     let some k ← gal true (← elem' x i) y j (y.size - j) 0 | return dn r i j
     cb := k
     if k > 0 then
       r := r ++ y.extract j (j + k); j := j + k
       if j == y.size then return dn r i j
     r := r.push (← elem' x i); i := i + 1
     if i + 1 == x.size then return ls r i j
     if ca < 7 && cb < 7 then break
   mg := mg + 1
   sgl mg
 unsupported "internal:list.sort.merge-bound") := rfl
set_option maxHeartbeats 2000000 in
theorem mlo_eq (x y : Array Keyed) : mlo x y = (do
 rule "list.sort.merge-lo"
 let e ← elem' y 0
 (if (1 == y.size) = true then pure (dnL x y #[e] 0 1)
   else (if (0 + 1 == x.size) = true then pure (lsL x y #[e] 0 1)
     else (do
       let g ← get
       let z ← forIn [0:x.size + y.size] ((none, #[e], 0, 1, gallopOf g) : S4) fun _ z => all1 x y z
       match z.1 with
       | some r => pure r
       | none => liftM (unsupported "internal:list.sort.merge-bound" : Sem (Array Keyed)))))) := by
 rw [mlo_eq0]
 congr 1
 funext _u
 dsimp only
 congr 1
 funext e
 refine ite_congr rfl (fun _ => rfl) (fun _ => ite_congr rfl (fun _ => rfl) (fun _ => ?_))
 congr 1
 funext g
 congr 1
 · congr 1
   funext _v z
   unfold all1
   congr 1
   · funext a
     obtain ⟨a1, a2, a3, a4, a5, a6⟩ := a
     cases a1 with
     | some r => rfl
     | none =>
       dsimp only
       congr 1
       funext _v3
       congr 1
       funext b
       obtain ⟨b1, b2, b3, b4, b5, b6, b7⟩ := b
       cases b1 <;> rfl
 · funext z
   obtain ⟨z1, z2⟩ := z
   cases z1 <;> rfl
end So
end
section
namespace So
open PySem PyProof.Rows
section
variable {prog : Program} {w : World} {A : Around} {E : Value → Shared → Prop} {s : Shared} {rk : Keyed → Int} {U : Keyed → Prop} {knd : SortKind}
abbrev setG (st : SortSt) (g : Nat) : SortSt := SortSt.mk' (kindOf st) (arrOf st) (pendingOf st) g (failedOf st)
theorem Zx {st : SortSt} {ar : Array Keyed} {i : Nat} {Q : Keyed → SortSt → Prop} {e : Keyed} (h : ar[i]? = some e) (q : Q e st) : wpS (model prog w) A E s (elem' ar i) Q st := by
 rw [elem'_eq, h]
 exact wpS_pure q
theorem Yh {x : Array Keyed} {i : Nat} (h : i < x.size) : ∃ e, x[i]? = some e ∧ e ∈ x ∧ R rk x i = rk e ∧ x.toList[i]? = some e := by
 refine ⟨x[i], by simp [h], Array.getElem_mem h, ?_, by rw [Array.getElem?_toList]; simp [h]⟩
 unfold R
 rw [show x[i]? = some x[i] by simp [h]]
theorem YV {x : Array Keyed} {i : Nat} {z : Keyed} (h : z ∈ x.toList.drop i) : ∃ m, i + m < x.size ∧ R rk x (i + m) = rk z := by
 obtain ⟨m, hm⟩ := List.mem_iff_getElem?.mp h
 rw [List.getElem?_drop, Array.getElem?_toList] at hm
 refine ⟨m, (Array.getElem?_eq_some_iff.mp hm).1, ?_⟩
 unfold R
 rw [hm]
theorem Xx {x : Array Keyed} {i k : Nat} {z : Keyed} (h : z ∈ (x.toList.drop i).take k) : ∃ m, m < k ∧ i + m < x.size ∧ R rk x (i + m) = rk z := by
 obtain ⟨m, hm⟩ := List.mem_iff_getElem?.mp h
 rw [List.getElem?_take] at hm
 by_cases hk : m < k
 · rw [if_pos hk, List.getElem?_drop, Array.getElem?_toList] at hm
   refine ⟨m, hk, (Array.getElem?_eq_some_iff.mp hm).1, ?_⟩
   unfold R
   rw [hm]
 · rw [if_neg hk] at hm
   cases hm
theorem YG {x : Array Keyed} (h : Srt rk x.toList) (i : Nat) {j : Nat} (hj : j ≤ x.size) : Seg rk x i j := fun p q _ hpq hq => by
 by_cases e : p = q
 · rw [e]; exact Int.le_refl _
 · obtain ⟨a, _, _, ra, ta⟩ := Yh (rk := rk) (x := x) (i := p) (by omega)
   obtain ⟨b, _, _, rb, tb⟩ := Yh (rk := rk) (x := x) (i := q) (by omega)
   rw [ra, rb]
   have hp := (List.getElem?_eq_some_iff.mp ta)
   have hq' := (List.getElem?_eq_some_iff.mp tb)
   have := List.pairwise_iff_getElem.mp h p q hp.1 hq'.1 (by omega)
   rw [hp.2, hq'.2] at this
   exact this
theorem Yp {x : Array Keyed} {i j : Nat} : (x.extract i j).toList = (x.toList.drop i).take (j - i) := by simp
theorem Uy {x : Array Keyed} {i : Nat} : (x.extract i x.size).toList = x.toList.drop i := by
 rw [Yp, List.take_of_length_le]
 simp
structure Lo (rk : Keyed → Int) (U : Keyed → Prop) (x y : Array Keyed) : Prop where
 ux : ∀ e, e ∈ x → U e
 uy : ∀ e, e ∈ y → U e
 sx : Srt rk x.toList
 sy : Srt rk y.toList
 mx : ∀ m, m < y.size → R rk y m ≤ R rk x (x.size - 1)
abbrev Good (rk : Keyed → Int) (x y r : Array Keyed) : Prop := Mrg rk x.toList y.toList r.toList
structure VLo (rk : Keyed → Int) (x y r : Array Keyed) (i j : Nat) : Prop where
 mg : MG rk x.toList y.toList r.toList i j
 hi : i + 1 < x.size
 hj : j < y.size
variable {x y r : Array Keyed} {i j : Nat}
theorem VF (L : Lo rk U x y) (m : MG rk x.toList y.toList r.toList i j) (h : y.size ≤ j ∨ x.size ≤ i) : Good rk x y (dnL x y r i j) := by
 unfold dnL Good
 rw [Array.toList_append, Array.toList_append, Uy, Uy]
 rcases h with h | h
 · exact m.endB L.sx (by simpa using h)
 · exact m.endA L.sy (by simpa using h)
theorem Uw (L : Lo rk U x y) (m : MG rk x.toList y.toList r.toList i j) (h : i + 1 = x.size) : Good rk x y (lsL x y r i j) := by
 unfold lsL Good
 rw [Array.toList_append, Array.toList_append, Uy, Uy]
 refine m.lastA L.sx L.sy fun u hu v hv => ?_
 obtain ⟨a, ha, ra⟩ := YV (rk := rk) hu
 have hv' : v ∈ y.toList.drop 0 := hv
 obtain ⟨b, hb, rb⟩ := YV (rk := rk) hv'
 have e : i + a = x.size - 1 := by omega
 rw [← ra, ← rb, e]
 exact L.mx _ hb
theorem VLo.pushY (v : VLo rk x y r i j) (L : Lo rk U x y) {e : Keyed} (he : y[j]? = some e) (h : ∀ m, i + m < x.size → rk e ≤ R rk x (i + m)) : MG rk x.toList y.toList (r.push e).toList i (j + 1) := by
 have h1 : (y.toList.drop j).take 1 = [e] := Vs (by rw [Array.getElem?_toList]; exact he)
 have := v.mg.takeB L.sy 1 (by
   rw [h1]
   intro a ha b hb
   have ea : a = e := by simpa using ha
   obtain ⟨m, hm, rm⟩ := YV (rk := rk) hb
   rw [ea, ← rm]
   exact h m hm)
 rw [h1] at this
 rw [Array.toList_push]
 exact this
theorem VLo.pushX (v : VLo rk x y r i j) (L : Lo rk U x y) {e : Keyed} (he : x[i]? = some e) (h : ∀ m, j + m < y.size → rk e ≤ R rk y (j + m)) : MG rk x.toList y.toList (r.push e).toList (i + 1) j := by
 have h1 : (x.toList.drop i).take 1 = [e] := Vs (by rw [Array.getElem?_toList]; exact he)
 have := v.mg.takeA L.sx 1 (by
   rw [h1]
   intro a ha b hb
   have ea : a = e := by simpa using ha
   obtain ⟨m, hm, rm⟩ := YV (rk := rk) hb
   rw [ea, ← rm]
   exact h m hm)
 rw [h1] at this
 rw [Array.toList_push]
 exact this
abbrev rem (x y : Array Keyed) (i j : Nat) : Nat := (x.size - i) + (y.size - j)
theorem one1_ok (c : Cmp prog w A E s rk U knd) (L : Lo rk U x y) {st : SortSt} (hk : kindOf st = knd) (v : VLo rk x y r i j) {mg ca cb : Nat} {Q : ForInStep S5 → SortSt → Prop}
   (h1 : ∀ R z, Good rk x y R → Q (.done (some R, z)) st) (h2 : ∀ r' i' j' ca cb, VLo rk x y r' i' j' → rem x y i' j' + 1 ≤ rem x y i j → Q (.done (none, r', i', j', ca, cb)) st ∧ Q (.yield (none, r', i', j', ca, cb)) st) : wpS (model prog w) A E s (one1 x y mg r i j ca cb) Q st := by
 have hi := v.hi
 have hj := v.hj
 obtain ⟨e, e1, e2, e3, e4⟩ := Yh (rk := rk) (x := y) (i := j) hj
 obtain ⟨f, f1, f2, f3, f4⟩ := Yh (rk := rk) (x := x) (i := i) (by omega)
 have sgx := YG L.sx i (Nat.le_refl x.size)
 have sgy := YG L.sy j (Nat.le_refl y.size)
 unfold one1
 refine wpS_bind (Zx e1 (wpS_bind (Zx f1 (wpS_bind (c e f st _ (L.uy e e2) (L.ux f f2) hk ?_)))))
 by_cases hl : rk e < rk f
 · rw [decide_eq_true hl]
   dsimp only
   rw [if_pos rfl]
   refine wpS_bind (Zx e1 ?_)
   have m := v.pushY L e1 (fun m hm => by
     have := sgx i (i + m) (Nat.le_refl _) (by omega) hm
     omega)
   by_cases hz : j + 1 = y.size
   · rw [if_pos (by simpa using hz)]
     exact wpS_pure (h1 _ _ (VF L m (.inl (by omega))))
   · rw [if_neg (by simpa using hz)]
     have q := h2 (r.push e) i (j + 1) 0 (cb + 1) ⟨m, hi, by omega⟩ (by unfold rem; omega)
     by_cases hg : cb + 1 ≥ mg
     · rw [if_pos hg]; exact wpS_pure q.1
     · rw [if_neg hg]; exact wpS_pure q.2
 · rw [decide_eq_false hl]
   dsimp only
   rw [if_neg (by simp)]
   refine wpS_bind (Zx f1 ?_)
   have m := v.pushX L f1 (fun m hm => by
     have := sgy j (j + m) (Nat.le_refl _) (by omega) hm
     omega)
   by_cases hz : i + 1 + 1 = x.size
   · rw [if_pos (by simpa using hz)]
     exact wpS_pure (h1 _ _ (Uw L m hz))
   · rw [if_neg (by simpa using hz)]
     have q := h2 (r.push f) (i + 1) j (ca + 1) 0 ⟨m, by omega, hj⟩ (by unfold rem; omega)
     by_cases hg : ca + 1 ≥ mg
     · rw [if_pos hg]; exact wpS_pure q.1
     · rw [if_neg hg]; exact wpS_pure q.2
theorem gr2_ok (L : Lo rk U x y) {st : SortSt} (v : VLo rk x y r i j) {mg k k1 : Nat} {Q : ForInStep S6 → SortSt → Prop} (hle : ∀ m, j + m < y.size → R rk x i ≤ R rk y (j + m))
   (h1 : ∀ R z, Good rk x y R → Q (.done (some R, z)) st) (h2 : ∀ r' i' j' z, VLo rk x y r' i' j' → rem x y i' j' + 1 ≤ rem x y i j → Q (.done (none, r', i', j', mg, z)) st ∧ Q (.yield (none, r', i', j', mg, z)) st) : wpS (model prog w) A E s (gr2 x y r i j mg k k1) Q st := by
 have hi := v.hi
 have hj := v.hj
 obtain ⟨f, f1, f2, f3, f4⟩ := Yh (rk := rk) (x := x) (i := i) (by omega)
 unfold gr2
 refine wpS_bind (Zx f1 ?_)
 have m := v.pushX L f1 (fun m hm => by rw [← f3]; exact hle m hm)
 by_cases hz : i + 1 + 1 = x.size
 · rw [if_pos (by simpa using hz)]
   exact wpS_pure (h1 _ _ (Uw L m hz))
 · rw [if_neg (by simpa using hz)]
   have q := h2 (r.push f) (i + 1) j (k, k1) ⟨m, by omega, hj⟩ (by unfold rem; omega)
   by_cases hg : (decide (k < 7) && decide (k1 < 7)) = true
   · rw [if_pos hg]; exact wpS_pure q.1
   · rw [if_neg hg]; exact wpS_pure q.2
theorem gr1_ok (c : Cmp prog w A E s rk U knd) (L : Lo rk U x y) {st : SortSt} (hk : kindOf st = knd) (v : VLo rk x y r i j) {mg k cb : Nat} {Q : ForInStep S6 → SortSt → Prop} (hle : ∀ m, i + m < x.size → R rk y j ≤ R rk x (i + m))
   (h1 : ∀ R z, Good rk x y R → Q (.done (some R, z)) st) (h2 : ∀ r' i' j' z, VLo rk x y r' i' j' → rem x y i' j' + 1 ≤ rem x y i j → Q (.done (none, r', i', j', mg, z)) st ∧ Q (.yield (none, r', i', j', mg, z)) st) : wpS (model prog w) A E s (gr1 x y r i j mg k cb) Q st := by
 have hi := v.hi
 have hj := v.hj
 obtain ⟨e, e1, e2, e3, e4⟩ := Yh (rk := rk) (x := y) (i := j) hj
 obtain ⟨f, f1, f2, f3, f4⟩ := Yh (rk := rk) (x := x) (i := i) (by omega)
 unfold gr1
 refine wpS_bind (Zx e1 ?_)
 have m := v.pushY L e1 (fun m hm => by rw [← e3]; exact hle m hm)
 by_cases hz : j + 1 = y.size
 · rw [if_pos (by simpa using hz)]
   exact wpS_pure (h1 _ _ (VF L m (.inl (by omega))))
 · rw [if_neg (by simpa using hz)]
   refine wpS_bind (Zx f1 ?_)
   have en : j + 1 + (y.size - (j + 1)) = y.size := by omega
   refine wpS_bind (XX c hk (L.ux f f2) (by omega) L.uy (YG L.sy _ (by omega)) (by omega) fun k1 hr b1 b2 => ?_)
   dsimp only
   have lows : ∀ q, q < k1 → R rk y (j + 1 + q) ≤ R rk x i := fun q hq => by
     have := b1 q hq
     unfold Bey at this
     rw [if_pos rfl] at this
     omega
   have highs : ∀ q, k1 ≤ q → j + 1 + q < y.size → R rk x i ≤ R rk y (j + 1 + q) := fun q hq hz => by
     have := b2 q hq (by omega)
     unfold Bey at this
     rw [if_pos rfl] at this
     omega
   by_cases hk0 : k1 > 0
   · rw [if_pos hk0]
     have sgx := YG L.sx i (Nat.le_refl x.size)
     have m2 : MG rk x.toList y.toList (r.push e ++ y.extract (j + 1) (j + 1 + k1)).toList i (j + 1 + k1) := by
       rw [Array.toList_append, Yp, show j + 1 + k1 - (j + 1) = k1 by omega]
       refine m.takeB L.sy k1 fun a ha b hb => ?_
       obtain ⟨q, hq, hq2, rq⟩ := Xx (rk := rk) ha
       obtain ⟨t, ht, rt⟩ := YV (rk := rk) hb
       have h3 := lows q hq
       have h4 := sgx i (i + t) (Nat.le_refl _) (by omega) ht
       omega
     by_cases hz2 : j + 1 + k1 = y.size
     · rw [if_pos (by simpa using hz2)]
       exact wpS_pure (h1 _ _ (VF L m2 (.inl (by omega))))
     · rw [if_neg (by simpa using hz2)]
       refine gr2_ok L ⟨m2, hi, by omega⟩ (fun q hq => ?_) h1 fun r' i' j' z v' hr' => h2 r' i' j' z v' (by unfold rem at *; omega)
       have := highs (k1 + q) (by omega) (by omega)
       rwa [show j + 1 + (k1 + q) = j + 1 + k1 + q by omega] at this
   · rw [if_neg hk0]
     have ek : k1 = 0 := by omega
     subst ek
     refine gr2_ok L ⟨m, hi, by omega⟩ (fun q hq => highs q (by omega) hq) h1 fun r' i' j' z v' hr' => h2 r' i' j' z v' (by unfold rem at *; omega)
theorem gr0_ok (c : Cmp prog w A E s rk U knd) (L : Lo rk U x y) {st : SortSt} (hk : kindOf st = knd) (v : VLo rk x y r i j) {mg ca cb : Nat} {Q : ForInStep S6 → SortSt → Prop}
   (h1 : ∀ R z, Good rk x y R → Q (.done (some R, z)) (setG st mg)) (h2 : ∀ r' i' j' z, VLo rk x y r' i' j' → rem x y i' j' + 1 ≤ rem x y i j → Q (.done (none, r', i', j', mg, z)) (setG st mg) ∧ Q (.yield (none, r', i', j', mg, z)) (setG st mg)) : wpS (model prog w) A E s (gr0 x y r i j mg ca cb) Q st := by
 have hi := v.hi
 have hj := v.hj
 obtain ⟨e, e1, e2, e3, e4⟩ := Yh (rk := rk) (x := y) (i := j) hj
 unfold gr0
 rw [Sj]
 refine wpS_bind (wpS_modify (wpS_bind (Zx e1 ?_)))
 refine wpS_bind (XX (st := setG st mg) c hk (L.uy e e2) (by omega) L.ux (YG L.sx _ (by omega)) (by omega) fun k hr b1 b2 => ?_)
 dsimp only
 have sgy := YG L.sy j (Nat.le_refl y.size)
 have lows : ∀ q, q < k → R rk x (i + q) ≤ R rk y j := fun q hq => by
   have := b1 q hq
   unfold Bey at this
   rw [if_neg (by simp)] at this
   omega
 have highs : ∀ q, k ≤ q → i + q < x.size → R rk y j ≤ R rk x (i + q) := fun q hq hz => by
   have := b2 q hq (by omega)
   unfold Bey at this
   rw [if_neg (by simp)] at this
   omega
 by_cases hk0 : k > 0
 · rw [if_pos hk0]
   have m2 : MG rk x.toList y.toList (r ++ x.extract i (i + k)).toList (i + k) j := by
     rw [Array.toList_append, Yp, show i + k - i = k by omega]
     refine v.mg.takeA L.sx k fun a ha b hb => ?_
     obtain ⟨q, hq, hq2, rq⟩ := Xx (rk := rk) ha
     obtain ⟨t, ht, rt⟩ := YV (rk := rk) hb
     have h3 := lows q hq
     have h4 := sgy j (j + t) (Nat.le_refl _) (by omega) ht
     omega
   by_cases hz : i + k + 1 = x.size
   · rw [if_pos (by simpa using hz)]
     exact wpS_pure (h1 _ _ (Uw L m2 hz))
   · rw [if_neg (by simpa using hz)]
     by_cases hz2 : i + k = x.size
     · rw [if_pos (by simpa using hz2)]
       exact wpS_pure (h1 _ _ (VF L m2 (.inr (by omega))))
     · rw [if_neg (by simpa using hz2)]
       refine gr1_ok c L (st := setG st mg) hk ⟨m2, by omega, hj⟩ (fun q hq => ?_) h1 fun r' i' j' z v' hr' => h2 r' i' j' z v' (by unfold rem at *; omega)
       have := highs (k + q) (by omega) (by omega)
       rwa [show i + (k + q) = i + k + q by omega] at this
 · rw [if_neg hk0]
   have ek : k = 0 := by omega
   subst ek
   exact gr1_ok c L (st := setG st mg) hk v (fun q hq => highs q (by omega) hq) h1 h2
end
end So
end
section
namespace So
open PySem PyProof.Rows
section
variable {prog : Program} {w : World} {A : Around} {E : Value → Shared → Prop} {s : Shared} {rk : Keyed → Int} {U : Keyed → Prop} {knd : SortKind} {x y r : Array Keyed} {i j : Nat}
theorem all1_ok (c : Cmp prog w A E s rk U knd) (L : Lo rk U x y) {st : SortSt} (hk : kindOf st = knd) (v : VLo rk x y r i j) (hf : rem x y i j < x.size + y.size) {o : Option (Array Keyed)} {mg : Nat} {Q : ForInStep S4 → SortSt → Prop}
   (h1 : ∀ R z g, Good rk x y R → Q (.done (some R, z)) (setG st g)) (h2 : ∀ r' i' j' mg' g, VLo rk x y r' i' j' → rem x y i' j' + 1 ≤ rem x y i j → Q (.yield (none, r', i', j', mg')) (setG st g)) : wpS (model prog w) A E s (all1 x y (o, r, i, j, mg)) Q st := by
 unfold all1
 refine wpS_bind (wpS_mono (wpS_forRange (I := fun t a st' => st = st' ∧ ∃ r' i' j' ca cb, a = (none, r', i', j', ca, cb) ∧ VLo rk x y r' i' j' ∧ rem x y i' j' + t ≤ rem x y i j)
   (Q := fun a st' => st = st' ∧ ((∃ R z, a = (some R, z) ∧ Good rk x y R) ∨ ∃ r' i' j' ca cb, a = (none, r', i', j', ca, cb) ∧ VLo rk x y r' i' j' ∧ rem x y i' j' + 1 ≤ rem x y i j)) ?s1 ?e1 ⟨rfl, r, i, j, 0, 0, rfl, v, Nat.le_refl _⟩) ?p1)
 case e1 =>
   rintro a st' ⟨rfl, r', i', j', ca, cb, rfl, v', hr⟩
   have := v'.hi
   unfold rem at *
   omega
 case s1 =>
   rintro t a st' _ ht ⟨rfl, r', i', j', ca, cb, rfl, v', hr⟩
   dsimp only
   refine one1_ok c L hk v' (fun R z g => ⟨rfl, .inl ⟨R, z, rfl, g⟩⟩) fun r2 i2 j2 ca2 cb2 v2 hr2 => ⟨⟨rfl, .inr ⟨r2, i2, j2, ca2, cb2, rfl, v2, by omega⟩⟩, rfl, r2, i2, j2, ca2, cb2, rfl, v2, by omega⟩
 case p1 =>
   rintro a st' ⟨rfl, ⟨R, z, rfl, g⟩ | ⟨r', i', j', ca, cb, rfl, v', hr⟩⟩
   · exact wpS_pure (h1 R _ (gallopOf st) g)
   · dsimp only
     refine wpS_bind (wpS_lift (wpAny_rule ⟨rfl, ?_⟩))
     refine wpS_bind (wpS_mono (wpS_forRange (I := fun t b st' => ∃ g, st' = setG st g ∧ ∃ r' i' j' mg' z, b = (none, r', i', j', mg', z) ∧ VLo rk x y r' i' j' ∧ rem x y i' j' + t + 1 ≤ rem x y i j)
       (Q := fun b st' => ∃ g, st' = setG st g ∧ ((∃ R z, b = (some R, z) ∧ Good rk x y R) ∨ ∃ r' i' j' mg' z, b = (none, r', i', j', mg', z) ∧ VLo rk x y r' i' j' ∧ rem x y i' j' + 1 ≤ rem x y i j)) ?s2 ?e2 ⟨gallopOf st, rfl, r', i', j', _, _, rfl, v', hr⟩) ?p2)
     case e2 =>
       rintro b st' ⟨g, rfl, r', i', j', mg', z, rfl, v', hr⟩
       exact ⟨g, rfl, .inr ⟨r', i', j', mg', z, rfl, v', by omega⟩⟩
     case s2 =>
       rintro t b st' _ ht ⟨g, rfl, r', i', j', mg', ⟨z1, z2⟩, rfl, v', hr⟩
       dsimp only
       by_cases hm : mg' > 1
       · rw [if_pos hm]
         exact gr0_ok c L (st := setG st g) hk v' (fun R z gd => ⟨mg' - 1, rfl, .inl ⟨R, z, rfl, gd⟩⟩) fun r2 i2 j2 z v2 hr2 => ⟨⟨mg' - 1, rfl, .inr ⟨r2, i2, j2, _, z, rfl, v2, by omega⟩⟩, mg' - 1, rfl, r2, i2, j2, _, z, rfl, v2, by omega⟩
       · rw [if_neg hm]
         exact gr0_ok c L (st := setG st g) hk v' (fun R z gd => ⟨mg', rfl, .inl ⟨R, z, rfl, gd⟩⟩) fun r2 i2 j2 z v2 hr2 => ⟨⟨mg', rfl, .inr ⟨r2, i2, j2, _, z, rfl, v2, by omega⟩⟩, mg', rfl, r2, i2, j2, _, z, rfl, v2, by omega⟩
     case p2 =>
       rintro b st' ⟨g, rfl, ⟨R, z, rfl, gd⟩ | ⟨r2, i2, j2, mg2, z, rfl, v2, hr2⟩⟩
       · exact wpS_pure (h1 R _ g gd)
       · dsimp only
         rw [Sj]
         exact wpS_bind (wpS_modify (wpS_pure (h2 r2 i2 j2 _ _ v2 hr2)))
theorem wpS_mlo (c : Cmp prog w A E s rk U knd) (L : Lo rk U x y) {st : SortSt} (hk : kindOf st = knd) (hx : 0 < x.size) (hy : 0 < y.size) (h0 : ∀ m, m < x.size → R rk y 0 ≤ R rk x m) {Q : Array Keyed → SortSt → Prop} (h : ∀ r g, Good rk x y r → Q r (setG st g)) : wpS (model prog w) A E s (mlo x y) Q st := by
 rw [mlo_eq]
 refine wpS_bind (wpS_lift (wpAny_rule ⟨rfl, ?_⟩))
 obtain ⟨e, e1, e2, e3, e4⟩ := Yh (rk := rk) (x := y) (i := 0) hy
 refine wpS_bind (Zx e1 ?_)
 have m0 : MG rk x.toList y.toList [] 0 0 := ⟨List.Perm.refl _, List.Pairwise.nil, fun _ h => by cases h⟩
 have m1 : MG rk x.toList y.toList (#[e] : Array Keyed).toList 0 1 := by
   have h1 : (y.toList.drop 0).take 1 = [e] := Vs e4
   have := m0.takeB L.sy 1 (by
     rw [h1]
     intro a ha b hb
     have ea : a = e := by simpa using ha
     obtain ⟨m, hm, rm⟩ := YV (rk := rk) hb
     rw [ea, ← rm, ← e3]
     exact h0 _ hm)
   rw [h1] at this
   exact this
 by_cases hz : 1 = y.size
 · rw [if_pos (by simpa using hz)]
   exact wpS_pure (h _ (gallopOf st) (VF L m1 (.inl (by omega))))
 · rw [if_neg (by simpa using hz)]
   by_cases hz2 : 0 + 1 = x.size
   · rw [if_pos (by simpa using hz2)]
     exact wpS_pure (h _ (gallopOf st) (Uw L m1 hz2))
   · rw [if_neg (by simpa using hz2)]
     refine wpS_bind (wpS_get ?_)
     refine wpS_bind (wpS_mono (wpS_forRange (I := fun t z st' => ∃ g, st' = setG st g ∧ ∃ r i j mg, z = (none, r, i, j, mg) ∧ VLo rk x y r i j ∧ rem x y i j + t + 1 ≤ x.size + y.size)
       (Q := fun z st' => ∃ g, st' = setG st g ∧ ∃ R z', z = (some R, z') ∧ Good rk x y R) ?os ?oe ⟨gallopOf st, rfl, #[e], 0, 1, _, rfl, ⟨m1, by omega, by omega⟩, by unfold rem; omega⟩) ?op)
     case oe =>
       rintro z st' ⟨g, rfl, r, i, j, mg, rfl, v, hr⟩
       have := v.hi
       unfold rem at hr
       omega
     case os =>
       rintro t z st' _ ht ⟨g, rfl, r, i, j, mg, rfl, v, hr⟩
       exact all1_ok c L (st := setG st g) hk v (by omega) (fun R z g gd => ⟨g, rfl, R, z, rfl, gd⟩) fun r' i' j' mg' g v' hr' => ⟨g, rfl, r', i', j', mg', rfl, v', by omega⟩
     case op =>
       rintro z st' ⟨g, rfl, R, z', rfl, gd⟩
       exact wpS_pure (h R g gd)
end
end So
end
section
namespace So
open PySem PyProof.Rows
section
variable {rk : Keyed → Int} {la lb o : List Keyed} {ia ib : Nat}
structure MH (rk : Keyed → Int) (la lb o : List Keyed) (ia ib : Nat) : Prop where
 perm : (la.take ia ++ lb.take ib ++ o).Perm (la ++ lb)
 srt : Srt rk o
 hgh : ∀ x ∈ o, ∀ y, y ∈ la.take ia ∨ y ∈ lb.take ib → rk y ≤ rk x
theorem UD {l : List Keyed} {i k : Nat} (h : k ≤ i) : l.take i = l.take k ++ (l.drop k).take (i - k) := by
 rw [show l.take i = l.take (k + (i - k)) by rw [Nat.add_sub_cancel' h], List.take_add]
theorem MH.takeA (m : MH rk la lb o ia ib) (sa : Srt rk la) {k : Nat} (hk : k ≤ ia) (h : ∀ x ∈ (la.drop k).take (ia - k), ∀ y ∈ lb.take ib, rk y ≤ rk x) : MH rk la lb ((la.drop k).take (ia - k) ++ o) k ib := by
 have hs : Srt rk (la.take ia) := sa.sublist (List.take_sublist _ _)
 have e := UD (l := la) hk
 refine ⟨?_, ?_, fun x hx y hy => ?_⟩
 · have p := m.perm
   rw [e] at p
   refine List.Perm.trans ?_ p
   rw [← List.append_assoc]
   refine List.Perm.append_right o ?_
   rw [List.append_assoc, List.append_assoc]
   exact List.Perm.append_left _ List.perm_append_comm
 · rw [e] at hs
   exact List.pairwise_append.mpr ⟨(List.pairwise_append.mp hs).2.1, m.srt, fun x hx y hy => m.hgh y hy x (.inl (by rw [e]; exact List.mem_append_right _ hx))⟩
 · rcases List.mem_append.mp hx with hx | hx
   · rcases hy with hy | hy
     · rw [e] at hs
       exact (List.pairwise_append.mp hs).2.2 y hy x hx
     · exact h x hx y hy
   · refine m.hgh x hx y ?_
     rcases hy with hy | hy
     · left; rw [e]; exact List.mem_append_left _ hy
     · exact .inr hy
theorem MH.takeB (m : MH rk la lb o ia ib) (sb : Srt rk lb) {k : Nat} (hk : k ≤ ib) (h : ∀ x ∈ (lb.drop k).take (ib - k), ∀ y ∈ la.take ia, rk y ≤ rk x) : MH rk la lb ((lb.drop k).take (ib - k) ++ o) ia k := by
 have hs : Srt rk (lb.take ib) := sb.sublist (List.take_sublist _ _)
 have e := UD (l := lb) hk
 refine ⟨?_, ?_, fun x hx y hy => ?_⟩
 · have p := m.perm
   rw [e] at p
   simpa [List.append_assoc] using p
 · rw [e] at hs
   exact List.pairwise_append.mpr ⟨(List.pairwise_append.mp hs).2.1, m.srt, fun x hx y hy => m.hgh y hy x (.inr (by rw [e]; exact List.mem_append_right _ hx))⟩
 · rcases List.mem_append.mp hx with hx | hx
   · rcases hy with hy | hy
     · exact h x hx y hy
     · rw [e] at hs
       exact (List.pairwise_append.mp hs).2.2 y hy x hx
   · refine m.hgh x hx y ?_
     rcases hy with hy | hy
     · exact .inl hy
     · right; rw [e]; exact List.mem_append_left _ hy
theorem MH.endA (m : MH rk la lb o 0 ib) (sb : Srt rk lb) : Mrg rk la lb (la.take 0 ++ lb.take ib ++ o) :=
 ⟨m.perm, List.pairwise_append.mpr ⟨sb.sublist (List.take_sublist _ _), m.srt, fun x hx y hy => m.hgh y hy x (.inr hx)⟩⟩
theorem MH.endB (m : MH rk la lb o ia 0) (sa : Srt rk la) : Mrg rk la lb (la.take ia ++ lb.take 0 ++ o) := by
 refine ⟨m.perm, ?_⟩
 rw [show lb.take 0 = [] from rfl, List.append_nil]
 exact List.pairwise_append.mpr ⟨sa.sublist (List.take_sublist _ _), m.srt, fun x hx y hy => m.hgh y hy x (.inl hx)⟩
theorem MH.firstB (m : MH rk la lb o ia ib) (sa : Srt rk la) (sb : Srt rk lb) (mn : ∀ x ∈ lb.take ib, ∀ y ∈ la, rk x ≤ rk y) : Mrg rk la lb (lb.take ib ++ la.take ia ++ o) := by
 refine ⟨(List.Perm.append_right o List.perm_append_comm).trans m.perm, ?_⟩
 refine List.pairwise_append.mpr ⟨List.pairwise_append.mpr ⟨sb.sublist (List.take_sublist _ _), sa.sublist (List.take_sublist _ _), fun x hx y hy => mn x hx y (List.mem_of_mem_take hy)⟩, m.srt, fun x hx y hy => m.hgh y hy x ?_⟩
 rcases List.mem_append.mp hx with hx | hx
 · exact .inr hx
 · exact .inl hx
end
def mhi : Array Keyed → Array Keyed → StateT SortSt Sem (Array Keyed) := sortPriv% PySem.Builtin.mergeHi
abbrev H5 := Option (Array Keyed) × Nat × Nat × Array Keyed × Nat × Nat
abbrev H6 := Option (Array Keyed) × Nat × Nat × Array Keyed × Nat × Nat × Nat
abbrev H4 := Option (Array Keyed) × Nat × Nat × Array Keyed × Nat
section
variable (x y : Array Keyed)
def dnH (r : Array Keyed) (i j : Nat) : Array Keyed := x.extract 0 i ++ y.extract 0 j ++ r.reverse
def fsH (r : Array Keyed) (i j : Nat) : Array Keyed := y.extract 0 j ++ x.extract 0 i ++ r.reverse
def hone1 (mg : Nat) (i j : Nat) (r : Array Keyed) (ca cb : Nat) : StateT SortSt Sem (ForInStep H5) := do
 let e ← elem' y (j - 1)
 let f ← elem' x (i - 1)
 let o ← lt' e f
 match o with
 | some aw =>
   (if aw = true then
     (do
       let e ← elem' x (i - 1)
       (if (i - 1 == 0) = true then pure (.done (some (dnH x y (r.push e) (i - 1) j), i - 1, j, r.push e, ca + 1, 0))
         else (if ca + 1 ≥ mg then pure (.done (none, i - 1, j, r.push e, ca + 1, 0)) else pure (.yield (none, i - 1, j, r.push e, ca + 1, 0)))))
     else
     (do
       let e ← elem' y (j - 1)
       (if (j - 1 == 1) = true then pure (.done (some (fsH x y (r.push e) i (j - 1)), i, j - 1, r.push e, 0, cb + 1))
         else (if cb + 1 ≥ mg then pure (.done (none, i, j - 1, r.push e, 0, cb + 1)) else pure (.yield (none, i, j - 1, r.push e, 0, cb + 1))))))
 | _ => pure (.done (some (dnH x y r i j), i, j, r, ca, cb))
def hgr2 (i j : Nat) (r : Array Keyed) (mg k k1 : Nat) : StateT SortSt Sem (ForInStep H6) := do
 let e ← elem' x (i - 1)
 (if (i - 1 == 0) = true then pure (.done (some (dnH x y (r.push e) (i - 1) j), i - 1, j, r.push e, mg, k, k1))
   else (if (decide (k < 7) && decide (k1 < 7)) = true then pure (.done (none, i - 1, j, r.push e, mg, k, k1)) else pure (.yield (none, i - 1, j, r.push e, mg, k, k1))))
def hgr1 (i j : Nat) (r : Array Keyed) (mg k cb : Nat) : StateT SortSt Sem (ForInStep H6) := do
 let e ← elem' y (j - 1)
 (if (j - 1 == 1) = true then pure (.done (some (fsH x y (r.push e) i (j - 1)), i, j - 1, r.push e, mg, k, cb))
   else
   (do
     let f ← elem' x (i - 1)
     let o ← gal true f y 0 (j - 1) (j - 1 - 1)
     match o with
     | some p =>
       (if j - 1 - p > 0 then
         (if (p == 1) = true then pure (.done (some (fsH x y (r.push e ++ (y.extract p (j - 1)).reverse) i p), i, p, r.push e ++ (y.extract p (j - 1)).reverse, mg, k, j - 1 - p))
           else (if (p == 0) = true then pure (.done (some (dnH x y (r.push e ++ (y.extract p (j - 1)).reverse) i p), i, p, r.push e ++ (y.extract p (j - 1)).reverse, mg, k, j - 1 - p))
             else hgr2 x y i p (r.push e ++ (y.extract p (j - 1)).reverse) mg k (j - 1 - p)))
         else hgr2 x y i (j - 1) (r.push e) mg k (j - 1 - p))
     | _ => pure (.done (some (dnH x y (r.push e) i (j - 1)), i, j - 1, r.push e, mg, k, cb))))
def hgr0 (i j : Nat) (r : Array Keyed) (mg ca cb : Nat) : StateT SortSt Sem (ForInStep H6) := do
 sgl mg
 let e ← elem' y (j - 1)
 let o ← gal false e x 0 i (i - 1)
 match o with
 | some p =>
   (if i - p > 0 then
     (if (p == 0) = true then pure (.done (some (dnH x y (r ++ (x.extract p i).reverse) p j), p, j, r ++ (x.extract p i).reverse, mg, i - p, cb))
       else hgr1 x y p j (r ++ (x.extract p i).reverse) mg (i - p) cb)
     else hgr1 x y i j r mg (i - p) cb)
 | _ => pure (.done (some (dnH x y r i j), i, j, r, mg, ca, cb))
def hall1 (z : H4) : StateT SortSt Sem (ForInStep H4) := do
 let a ← forIn [0:x.size + y.size] ((none, z.2.1, z.2.2.1, z.2.2.2.1, 0, 0) : H5) fun _ a => hone1 x y z.2.2.2.2 a.2.1 a.2.2.1 a.2.2.2.1 a.2.2.2.2.1 a.2.2.2.2.2
 match a.1 with
 | some r => pure (.done (some r, a.2.1, a.2.2.1, a.2.2.2.1, z.2.2.2.2))
 | none => do
   liftM (rule "list.sort.gallop")
   let b ← forIn [0:x.size + y.size] ((none, a.2.1, a.2.2.1, a.2.2.2.1, z.2.2.2.2 + 1, a.2.2.2.2.1, a.2.2.2.2.2) : H6) fun _ b =>
     if b.2.2.2.2.1 > 1 then hgr0 x y b.2.1 b.2.2.1 b.2.2.2.1 (b.2.2.2.2.1 - 1) b.2.2.2.2.2.1 b.2.2.2.2.2.2 else hgr0 x y b.2.1 b.2.2.1 b.2.2.2.1 b.2.2.2.2.1 b.2.2.2.2.2.1 b.2.2.2.2.2.2
   match b.1 with
   | some r => pure (.done (some r, b.2.1, b.2.2.1, b.2.2.2.1, b.2.2.2.2.1))
   | none => do
     sgl (b.2.2.2.2.1 + 1)
     pure (.yield (none, b.2.1, b.2.2.1, b.2.2.2.1, b.2.2.2.2.1 + 1))
end
theorem mhi_eq0 (x y : Array Keyed) : mhi x y = (do
 rule "list.sort.merge-hi"
 let tot := x.size + y.size
 let dn (r : Array Keyed) (i j : Nat) := x.extract 0 i ++ y.extract 0 j ++ r.reverse
 let fs (r : Array Keyed) (i j : Nat) := y.extract 0 j ++ x.extract 0 i ++ r.reverse
 let mut i := x.size - 1
 let mut j := y.size
 let mut r : Array Keyed := #[← elem' x i]
 if i == 0 then return dn r i j
 if j == 1 then return fs r i j
 let mut mg := gallopOf (← get)
 for _ in [0:tot] do
   let mut ca := 0
   let mut cb := 0
   for _ in [0:tot] do
     let some aw ← lt' (← elem' y (j - 1)) (← elem' x (i - 1)) | return dn r i j
     if aw then
       i := i - 1; r := r.push (← elem' x i); ca := ca + 1; cb := 0
       if i == 0 then return dn r i j
       if ca ≥ mg then break
     else
       j := j - 1; r := r.push (← elem' y j); cb := cb + 1; ca := 0
       if j == 1 then return fs r i j
       if cb ≥ mg then break
   rule "list.sort.gallop"
   mg := mg + 1
   for _ in [0:tot] do
     if mg > 1 then mg := mg - 1
     sgl mg
     let some p ← gal false (← elem' y (j - 1)) x 0 i (i - 1) | return dn r i j
     let k := i - p
     ca := k
     if k > 0 then
       r := r ++ (x.extract p i).reverse; i := p
       if i == 0 then return dn r i j
     j := j - 1; r := r.push (← elem' y j)
     if j == 1 then return fs r i j
     let some p ← gal true (← elem' x (i - 1)) y 0 j (j - 1) | return dn r i j
     let k := j - p
     cb := k
     if k > 0 then
       r := r ++ (y.extract p j).reverse; j := p
       if j == 1 then return fs r i j
       if j == 0 then return dn r i j
     i := i - 1; r := r.push (← elem' x i)
     if i == 0 then return dn r i j
     if ca < 7 && cb < 7 then break
   mg := mg + 1
   sgl mg
 unsupported "internal:list.sort.merge-bound") := rfl
set_option maxHeartbeats 2000000 in
theorem mhi_eq (x y : Array Keyed) : mhi x y = (do
 rule "list.sort.merge-hi"
 let e ← elem' x (x.size - 1)
 (if (x.size - 1 == 0) = true then pure (dnH x y #[e] (x.size - 1) y.size)
   else (if (y.size == 1) = true then pure (fsH x y #[e] (x.size - 1) y.size)
     else (do
       let g ← get
       let z ← forIn [0:x.size + y.size] ((none, x.size - 1, y.size, #[e], gallopOf g) : H4) fun _ z => hall1 x y z
       match z.1 with
       | some r => pure r
       | none => liftM (unsupported "internal:list.sort.merge-bound" : Sem (Array Keyed)))))) := by
 rw [mhi_eq0]
 congr 1
 funext _u
 dsimp only
 congr 1
 funext e
 refine ite_congr rfl (fun _ => rfl) (fun _ => ite_congr rfl (fun _ => rfl) (fun _ => ?_))
 congr 1
 funext g
 congr 1
 · congr 1
   funext _v z
   unfold hall1
   congr 1
   · funext a
     obtain ⟨a1, a2, a3, a4, a5, a6⟩ := a
     cases a1 with
     | some r => rfl
     | none =>
       dsimp only
       congr 1
       funext _v3
       congr 1
       funext b
       obtain ⟨b1, b2, b3, b4, b5, b6, b7⟩ := b
       cases b1 <;> rfl
 · funext z
   obtain ⟨z1, z2⟩ := z
   cases z1 <;> rfl
end So
end
section
namespace So
open PySem PyProof.Rows
section
variable {prog : Program} {w : World} {A : Around} {E : Value → Shared → Prop} {s : Shared} {rk : Keyed → Int} {U : Keyed → Prop} {knd : SortKind}
structure Hi (rk : Keyed → Int) (U : Keyed → Prop) (x y : Array Keyed) : Prop where
 ux : ∀ e, e ∈ x → U e
 uy : ∀ e, e ∈ y → U e
 sx : Srt rk x.toList
 sy : Srt rk y.toList
 mn : ∀ m, m < x.size → R rk y 0 ≤ R rk x m
structure VH (rk : Keyed → Int) (x y r : Array Keyed) (i j : Nat) : Prop where
 mg : MH rk x.toList y.toList r.toList.reverse i j
 i0 : 0 < i
 i1 : i ≤ x.size
 j0 : 1 < j
 j1 : j ≤ y.size
variable {x y r : Array Keyed} {i j : Nat}
theorem Ux {i : Nat} : (x.extract 0 i).toList = x.toList.take i := by
 rw [Yp]
 simp
theorem VC {i : Nat} {z : Keyed} (h : z ∈ x.toList.take i) : ∃ m, m < i ∧ m < x.size ∧ R rk x m = rk z := by
 have h' : z ∈ (x.toList.drop 0).take i := h
 obtain ⟨m, h1, h2, h3⟩ := Xx (rk := rk) h'
 rw [Nat.zero_add] at h2 h3
 exact ⟨m, h1, h2, h3⟩
theorem XM (L : Hi rk U x y) (m : MH rk x.toList y.toList r.toList.reverse i j) (h : i = 0 ∨ j = 0) : Good rk x y (dnH x y r i j) := by
 unfold dnH Good
 rw [Array.toList_append, Array.toList_append, Ux, Ux, Array.toList_reverse]
 rcases h with h | h
 · subst h
   exact m.endA L.sy
 · subst h
   exact m.endB L.sx
theorem VG (L : Hi rk U x y) (m : MH rk x.toList y.toList r.toList.reverse i 1) : Good rk x y (fsH x y r i 1) := by
 unfold fsH Good
 rw [Array.toList_append, Array.toList_append, Ux, Ux, Array.toList_reverse]
 refine m.firstB L.sx L.sy fun u hu v hv => ?_
 obtain ⟨a, ha, _, ra⟩ := VC (rk := rk) hu
 have hv' : v ∈ x.toList.drop 0 := hv
 obtain ⟨b, hb, rb⟩ := YV (rk := rk) hv'
 have e : a = 0 := by omega
 rw [← ra, ← rb, e]
 exact L.mn _ hb
theorem pushH {e : Keyed} : (r.push e).toList.reverse = [e] ++ r.toList.reverse := by simp
theorem one_last {l : List Keyed} {i : Nat} {e : Keyed} (h0 : 0 < i) (h : l[i - 1]? = some e) : (l.drop (i - 1)).take (i - (i - 1)) = [e] := by
 rw [show i - (i - 1) = 1 by omega]
 exact Vs h
theorem MH.pushX (v : MH rk x.toList y.toList r.toList.reverse i j) (h0 : 0 < i) (L : Hi rk U x y) {e : Keyed} (he : x[i - 1]? = some e) (h : ∀ m, m < j → m < y.size → R rk y m ≤ rk e) : MH rk x.toList y.toList (r.push e).toList.reverse (i - 1) j := by
 have h1 := one_last (l := x.toList) h0 (by rw [Array.getElem?_toList]; exact he)
 have := v.takeA L.sx (k := i - 1) (by omega) (by
   rw [h1]
   intro a ha b hb
   have ea : a = e := by simpa using ha
   obtain ⟨m, hm, hm2, rm⟩ := VC (rk := rk) hb
   rw [ea, ← rm]
   exact h m hm hm2)
 rw [h1] at this
 rw [pushH]
 exact this
theorem MH.pushY (v : MH rk x.toList y.toList r.toList.reverse i j) (h0 : 0 < j) (L : Hi rk U x y) {e : Keyed} (he : y[j - 1]? = some e) (h : ∀ m, m < i → m < x.size → R rk x m ≤ rk e) : MH rk x.toList y.toList (r.push e).toList.reverse i (j - 1) := by
 have h1 := one_last (l := y.toList) h0 (by rw [Array.getElem?_toList]; exact he)
 have := v.takeB L.sy (k := j - 1) (by omega) (by
   rw [h1]
   intro a ha b hb
   have ea : a = e := by simpa using ha
   obtain ⟨m, hm, hm2, rm⟩ := VC (rk := rk) hb
   rw [ea, ← rm]
   exact h m hm hm2)
 rw [h1] at this
 rw [pushH]
 exact this
theorem manyH {x r : Array Keyed} {p i : Nat} : (r ++ (x.extract p i).reverse).toList.reverse = (x.toList.drop p).take (i - p) ++ r.toList.reverse := by
 rw [Array.toList_append, Array.toList_reverse, Yp]
 simp
theorem hone1_ok (c : Cmp prog w A E s rk U knd) (L : Hi rk U x y) {st : SortSt} (hk : kindOf st = knd) (v : VH rk x y r i j) {mg ca cb : Nat} {Q : ForInStep H5 → SortSt → Prop}
   (h1 : ∀ R z, Good rk x y R → Q (.done (some R, z)) st) (h2 : ∀ r' i' j' ca cb, VH rk x y r' i' j' → i' + j' + 1 ≤ i + j → Q (.done (none, i', j', r', ca, cb)) st ∧ Q (.yield (none, i', j', r', ca, cb)) st) : wpS (model prog w) A E s (hone1 x y mg i j r ca cb) Q st := by
 obtain ⟨vm, i0, i1, j0, j1⟩ := v
 obtain ⟨e, e1, e2, e3, e4⟩ := Yh (rk := rk) (x := y) (i := j - 1) (by omega)
 obtain ⟨f, f1, f2, f3, f4⟩ := Yh (rk := rk) (x := x) (i := i - 1) (by omega)
 have sgx := YG L.sx 0 (Nat.le_refl x.size)
 have sgy := YG L.sy 0 (Nat.le_refl y.size)
 unfold hone1
 refine wpS_bind (Zx e1 (wpS_bind (Zx f1 (wpS_bind (c e f st _ (L.uy e e2) (L.ux f f2) hk ?_)))))
 by_cases hl : rk e < rk f
 · rw [decide_eq_true hl]
   dsimp only
   rw [if_pos rfl]
   refine wpS_bind (Zx f1 ?_)
   have m := vm.pushX i0 L f1 (fun m hm hm2 => by
     have := sgy m (j - 1) (Nat.zero_le _) (by omega) (by omega)
     omega)
   by_cases hz : i - 1 = 0
   · rw [if_pos (by simpa using hz)]
     exact wpS_pure (h1 _ _ (XM L m (.inl hz)))
   · rw [if_neg (by simpa using hz)]
     have q := h2 (r.push f) (i - 1) j (ca + 1) 0 ⟨m, by omega, by omega, j0, j1⟩ (by omega)
     by_cases hg : ca + 1 ≥ mg
     · rw [if_pos hg]; exact wpS_pure q.1
     · rw [if_neg hg]; exact wpS_pure q.2
 · rw [decide_eq_false hl]
   dsimp only
   rw [if_neg (by simp)]
   refine wpS_bind (Zx e1 ?_)
   have m := vm.pushY (by omega) L e1 (fun m hm hm2 => by
     have := sgx m (i - 1) (Nat.zero_le _) (by omega) (by omega)
     omega)
   by_cases hz : j - 1 = 1
   · rw [if_pos (by simpa using hz)]
     rw [hz] at m ⊢
     exact wpS_pure (h1 _ _ (VG L m))
   · rw [if_neg (by simpa using hz)]
     have q := h2 (r.push e) i (j - 1) 0 (cb + 1) ⟨m, i0, i1, by omega, by omega⟩ (by omega)
     by_cases hg : cb + 1 ≥ mg
     · rw [if_pos hg]; exact wpS_pure q.1
     · rw [if_neg hg]; exact wpS_pure q.2
theorem hgr2_ok (L : Hi rk U x y) {st : SortSt} (v : VH rk x y r i j) {mg k k1 : Nat} {Q : ForInStep H6 → SortSt → Prop} (hle : ∀ m, m < j → m < y.size → R rk y m ≤ R rk x (i - 1))
   (h1 : ∀ R z, Good rk x y R → Q (.done (some R, z)) st) (h2 : ∀ r' i' j' z, VH rk x y r' i' j' → i' + j' + 1 ≤ i + j → Q (.done (none, i', j', r', mg, z)) st ∧ Q (.yield (none, i', j', r', mg, z)) st) : wpS (model prog w) A E s (hgr2 x y i j r mg k k1) Q st := by
 obtain ⟨vm, i0, i1, j0, j1⟩ := v
 obtain ⟨f, f1, f2, f3, f4⟩ := Yh (rk := rk) (x := x) (i := i - 1) (by omega)
 unfold hgr2
 refine wpS_bind (Zx f1 ?_)
 have m := vm.pushX i0 L f1 (fun m hm hm2 => by rw [← f3]; exact hle m hm hm2)
 by_cases hz : i - 1 = 0
 · rw [if_pos (by simpa using hz)]
   exact wpS_pure (h1 _ _ (XM L m (.inl hz)))
 · rw [if_neg (by simpa using hz)]
   have q := h2 (r.push f) (i - 1) j (k, k1) ⟨m, by omega, by omega, j0, j1⟩ (by omega)
   by_cases hg : (decide (k < 7) && decide (k1 < 7)) = true
   · rw [if_pos hg]; exact wpS_pure q.1
   · rw [if_neg hg]; exact wpS_pure q.2
theorem hgr1_ok (c : Cmp prog w A E s rk U knd) (L : Hi rk U x y) {st : SortSt} (hk : kindOf st = knd) (v : VH rk x y r i j) {mg k cb : Nat} {Q : ForInStep H6 → SortSt → Prop} (hle : ∀ m, m < i → m < x.size → R rk x m ≤ R rk y (j - 1))
   (h1 : ∀ R z, Good rk x y R → Q (.done (some R, z)) st) (h2 : ∀ r' i' j' z, VH rk x y r' i' j' → i' + j' + 1 ≤ i + j → Q (.done (none, i', j', r', mg, z)) st ∧ Q (.yield (none, i', j', r', mg, z)) st) : wpS (model prog w) A E s (hgr1 x y i j r mg k cb) Q st := by
 obtain ⟨vm, i0, i1, j0, j1⟩ := v
 obtain ⟨e, e1, e2, e3, e4⟩ := Yh (rk := rk) (x := y) (i := j - 1) (by omega)
 obtain ⟨f, f1, f2, f3, f4⟩ := Yh (rk := rk) (x := x) (i := i - 1) (by omega)
 unfold hgr1
 refine wpS_bind (Zx e1 ?_)
 have m := vm.pushY (by omega) L e1 (fun m hm hm2 => by rw [← e3]; exact hle m hm hm2)
 by_cases hz : j - 1 = 1
 · rw [if_pos (by simpa using hz)]
   rw [hz] at m ⊢
   exact wpS_pure (h1 _ _ (VG L m))
 · rw [if_neg (by simpa using hz)]
   refine wpS_bind (Zx f1 ?_)
   refine wpS_bind (XX c hk (L.ux f f2) (by omega) L.uy (YG L.sy _ (by omega)) (by omega) fun p hr b1 b2 => ?_)
   dsimp only
   have lows : ∀ q, q < p → R rk y q ≤ R rk x (i - 1) := fun q hq => by
     have := b1 q hq
     unfold Bey at this
     rw [if_pos rfl, Nat.zero_add] at this
     omega
   have highs : ∀ q, p ≤ q → q < j - 1 → R rk x (i - 1) ≤ R rk y q := fun q hq hz => by
     have := b2 q hq hz
     unfold Bey at this
     rw [if_pos rfl, Nat.zero_add] at this
     omega
   by_cases hk0 : j - 1 - p > 0
   · rw [if_pos hk0]
     have sgx := YG L.sx 0 (Nat.le_refl x.size)
     have m2 : MH rk x.toList y.toList (r.push e ++ (y.extract p (j - 1)).reverse).toList.reverse i p := by
       rw [manyH]
       refine m.takeB L.sy (by omega) fun a ha b hb => ?_
       obtain ⟨q, hq, hq2, rq⟩ := Xx (rk := rk) ha
       obtain ⟨t, ht, ht2, rt⟩ := VC (rk := rk) hb
       have h3 := highs (p + q) (by omega) (by omega)
       have h4 := sgx t (i - 1) (Nat.zero_le _) (by omega) (by omega)
       omega
     by_cases hz2 : p = 1
     · rw [if_pos (by simpa using hz2)]
       rw [hz2] at m2 ⊢
       exact wpS_pure (h1 _ _ (VG L m2))
     · rw [if_neg (by simpa using hz2)]
       by_cases hz3 : p = 0
       · rw [if_pos (by simpa using hz3)]
         exact wpS_pure (h1 _ _ (XM L m2 (.inr hz3)))
       · rw [if_neg (by simpa using hz3)]
         exact hgr2_ok L ⟨m2, i0, i1, by omega, by omega⟩ (fun q hq _ => lows q hq) h1 fun r' i' j' z v' hr' => h2 r' i' j' z v' (by omega)
   · rw [if_neg hk0]
     have ek : p = j - 1 := by omega
     exact hgr2_ok L ⟨m, i0, i1, by omega, by omega⟩ (fun q hq _ => lows q (by omega)) h1 fun r' i' j' z v' hr' => h2 r' i' j' z v' (by omega)
theorem hgr0_ok (c : Cmp prog w A E s rk U knd) (L : Hi rk U x y) {st : SortSt} (hk : kindOf st = knd) (v : VH rk x y r i j) {mg ca cb : Nat} {Q : ForInStep H6 → SortSt → Prop}
   (h1 : ∀ R z, Good rk x y R → Q (.done (some R, z)) (setG st mg)) (h2 : ∀ r' i' j' z, VH rk x y r' i' j' → i' + j' + 1 ≤ i + j → Q (.done (none, i', j', r', mg, z)) (setG st mg) ∧ Q (.yield (none, i', j', r', mg, z)) (setG st mg)) : wpS (model prog w) A E s (hgr0 x y i j r mg ca cb) Q st := by
 obtain ⟨vm, i0, i1, j0, j1⟩ := v
 obtain ⟨e, e1, e2, e3, e4⟩ := Yh (rk := rk) (x := y) (i := j - 1) (by omega)
 unfold hgr0
 rw [Sj]
 refine wpS_bind (wpS_modify (wpS_bind (Zx e1 ?_)))
 refine wpS_bind (XX (st := setG st mg) c hk (L.uy e e2) (by omega) L.ux (YG L.sx _ (by omega)) (by omega) fun p hr b1 b2 => ?_)
 dsimp only
 have sgy := YG L.sy 0 (Nat.le_refl y.size)
 have lows : ∀ q, q < p → R rk x q ≤ R rk y (j - 1) := fun q hq => by
   have := b1 q hq
   unfold Bey at this
   rw [if_neg (by simp), Nat.zero_add] at this
   omega
 have highs : ∀ q, p ≤ q → q < i → R rk y (j - 1) ≤ R rk x q := fun q hq hz => by
   have := b2 q hq hz
   unfold Bey at this
   rw [if_neg (by simp), Nat.zero_add] at this
   omega
 by_cases hk0 : i - p > 0
 · rw [if_pos hk0]
   have m2 : MH rk x.toList y.toList (r ++ (x.extract p i).reverse).toList.reverse p j := by
     rw [manyH]
     refine vm.takeA L.sx (by omega) fun a ha b hb => ?_
     obtain ⟨q, hq, hq2, rq⟩ := Xx (rk := rk) ha
     obtain ⟨t, ht, ht2, rt⟩ := VC (rk := rk) hb
     have h3 := highs (p + q) (by omega) (by omega)
     have h4 := sgy t (j - 1) (Nat.zero_le _) (by omega) (by omega)
     omega
   by_cases hz : p = 0
   · rw [if_pos (by simpa using hz)]
     exact wpS_pure (h1 _ _ (XM L m2 (.inl hz)))
   · rw [if_neg (by simpa using hz)]
     exact hgr1_ok c L (st := setG st mg) hk ⟨m2, by omega, by omega, j0, j1⟩ (fun q hq _ => lows q hq) h1 fun r' i' j' z v' hr' => h2 r' i' j' z v' (by omega)
 · rw [if_neg hk0]
   have ek : p = i := by omega
   exact hgr1_ok c L (st := setG st mg) hk ⟨vm, i0, i1, j0, j1⟩ (fun q hq _ => lows q (by omega)) h1 h2
theorem hall1_ok (c : Cmp prog w A E s rk U knd) (L : Hi rk U x y) {st : SortSt} (hk : kindOf st = knd) (v : VH rk x y r i j) {o : Option (Array Keyed)} {mg : Nat} {Q : ForInStep H4 → SortSt → Prop}
   (h1 : ∀ R z g, Good rk x y R → Q (.done (some R, z)) (setG st g)) (h2 : ∀ r' i' j' mg' g, VH rk x y r' i' j' → i' + j' + 1 ≤ i + j → Q (.yield (none, i', j', r', mg')) (setG st g)) : wpS (model prog w) A E s (hall1 x y (o, i, j, r, mg)) Q st := by
 unfold hall1
 refine wpS_bind (wpS_mono (wpS_forRange (I := fun t a st' => st = st' ∧ ∃ r' i' j' ca cb, a = (none, i', j', r', ca, cb) ∧ VH rk x y r' i' j' ∧ i' + j' + t ≤ i + j)
   (Q := fun a st' => st = st' ∧ ((∃ R z, a = (some R, z) ∧ Good rk x y R) ∨ ∃ r' i' j' ca cb, a = (none, i', j', r', ca, cb) ∧ VH rk x y r' i' j' ∧ i' + j' + 1 ≤ i + j)) ?s1 ?e1 ⟨rfl, r, i, j, 0, 0, rfl, v, Nat.le_refl _⟩) ?p1)
 case e1 =>
   rintro a st' ⟨rfl, r', i', j', ca, cb, rfl, v', hr⟩
   have := v'.i0
   have := v.i1
   have := v.j1
   omega
 case s1 =>
   rintro t a st' _ ht ⟨rfl, r', i', j', ca, cb, rfl, v', hr⟩
   dsimp only
   refine hone1_ok c L hk v' (fun R z g => ⟨rfl, .inl ⟨R, z, rfl, g⟩⟩) fun r2 i2 j2 ca2 cb2 v2 hr2 => ⟨⟨rfl, .inr ⟨r2, i2, j2, ca2, cb2, rfl, v2, by omega⟩⟩, rfl, r2, i2, j2, ca2, cb2, rfl, v2, by omega⟩
 case p1 =>
   rintro a st' ⟨rfl, ⟨R, z, rfl, g⟩ | ⟨r', i', j', ca, cb, rfl, v', hr⟩⟩
   · exact wpS_pure (h1 R _ (gallopOf st) g)
   · dsimp only
     refine wpS_bind (wpS_lift (wpAny_rule ⟨rfl, ?_⟩))
     refine wpS_bind (wpS_mono (wpS_forRange (I := fun t b st' => ∃ g, st' = setG st g ∧ ∃ r' i' j' mg' z, b = (none, i', j', r', mg', z) ∧ VH rk x y r' i' j' ∧ i' + j' + t + 1 ≤ i + j)
       (Q := fun b st' => ∃ g, st' = setG st g ∧ ((∃ R z, b = (some R, z) ∧ Good rk x y R) ∨ ∃ r' i' j' mg' z, b = (none, i', j', r', mg', z) ∧ VH rk x y r' i' j' ∧ i' + j' + 1 ≤ i + j)) ?s2 ?e2 ⟨gallopOf st, rfl, r', i', j', _, _, rfl, v', hr⟩) ?p2)
     case e2 =>
       rintro b st' ⟨g, rfl, r', i', j', mg', z, rfl, v', hr⟩
       exact ⟨g, rfl, .inr ⟨r', i', j', mg', z, rfl, v', by omega⟩⟩
     case s2 =>
       rintro t b st' _ ht ⟨g, rfl, r', i', j', mg', ⟨z1, z2⟩, rfl, v', hr⟩
       dsimp only
       by_cases hm : mg' > 1
       · rw [if_pos hm]
         exact hgr0_ok c L (st := setG st g) hk v' (fun R z gd => ⟨mg' - 1, rfl, .inl ⟨R, z, rfl, gd⟩⟩) fun r2 i2 j2 z v2 hr2 => ⟨⟨mg' - 1, rfl, .inr ⟨r2, i2, j2, _, z, rfl, v2, by omega⟩⟩, mg' - 1, rfl, r2, i2, j2, _, z, rfl, v2, by omega⟩
       · rw [if_neg hm]
         exact hgr0_ok c L (st := setG st g) hk v' (fun R z gd => ⟨mg', rfl, .inl ⟨R, z, rfl, gd⟩⟩) fun r2 i2 j2 z v2 hr2 => ⟨⟨mg', rfl, .inr ⟨r2, i2, j2, _, z, rfl, v2, by omega⟩⟩, mg', rfl, r2, i2, j2, _, z, rfl, v2, by omega⟩
     case p2 =>
       rintro b st' ⟨g, rfl, ⟨R, z, rfl, gd⟩ | ⟨r2, i2, j2, mg2, z, rfl, v2, hr2⟩⟩
       · exact wpS_pure (h1 R _ g gd)
       · dsimp only
         rw [Sj]
         exact wpS_bind (wpS_modify (wpS_pure (h2 r2 i2 j2 _ _ v2 hr2)))
theorem wpS_mhi (c : Cmp prog w A E s rk U knd) (L : Hi rk U x y) {st : SortSt} (hk : kindOf st = knd) (hx : 0 < x.size) (hy : 0 < y.size) (h0 : ∀ m, m < y.size → R rk y m ≤ R rk x (x.size - 1)) {Q : Array Keyed → SortSt → Prop} (h : ∀ r g, Good rk x y r → Q r (setG st g)) : wpS (model prog w) A E s (mhi x y) Q st := by
 rw [mhi_eq]
 refine wpS_bind (wpS_lift (wpAny_rule ⟨rfl, ?_⟩))
 obtain ⟨e, e1, e2, e3, e4⟩ := Yh (rk := rk) (x := x) (i := x.size - 1) (by omega)
 refine wpS_bind (Zx e1 ?_)
 have m0 : MH rk x.toList y.toList (#[] : Array Keyed).toList.reverse x.size y.size := by
   refine ⟨?_, List.Pairwise.nil, fun _ h => by cases h⟩
   rw [List.take_of_length_le (by simp), List.take_of_length_le (by simp)]
   simp
 have m1 : MH rk x.toList y.toList (#[e] : Array Keyed).toList.reverse (x.size - 1) y.size := m0.pushX hx L e1 (fun m hm _ => by rw [← e3]; exact h0 m hm)
 by_cases hz : x.size - 1 = 0
 · rw [if_pos (by simpa using hz)]
   exact wpS_pure (h _ (gallopOf st) (XM L m1 (.inl hz)))
 · rw [if_neg (by simpa using hz)]
   by_cases hz2 : y.size = 1
   · rw [if_pos (by simpa using hz2)]
     rw [hz2] at m1 ⊢
     exact wpS_pure (h _ (gallopOf st) (VG L m1))
   · rw [if_neg (by simpa using hz2)]
     refine wpS_bind (wpS_get ?_)
     refine wpS_bind (wpS_mono (wpS_forRange (I := fun t z st' => ∃ g, st' = setG st g ∧ ∃ r i j mg, z = (none, i, j, r, mg) ∧ VH rk x y r i j ∧ i + j + t + 1 ≤ x.size + y.size)
       (Q := fun z st' => ∃ g, st' = setG st g ∧ ∃ R z', z = (some R, z') ∧ Good rk x y R) ?os ?oe ⟨gallopOf st, rfl, #[e], x.size - 1, y.size, _, rfl, ⟨m1, by omega, by omega, by omega, by omega⟩, by omega⟩) ?op)
     case oe =>
       rintro z st' ⟨g, rfl, r, i, j, mg, rfl, v, hr⟩
       have := v.i0
       omega
     case os =>
       rintro t z st' _ ht ⟨g, rfl, r, i, j, mg, rfl, v, hr⟩
       exact hall1_ok c L (st := setG st g) hk v (fun R z g gd => ⟨g, rfl, R, z, rfl, gd⟩) fun r' i' j' mg' g v' hr' => ⟨g, rfl, r', i', j', mg', rfl, v', by omega⟩
     case op =>
       rintro z st' ⟨g, rfl, R, z', rfl, gd⟩
       exact wpS_pure (h R g gd)
end
end So
end
section
namespace So
open PySem PyProof.Rows
def mat : Nat → StateT SortSt Sem Bool := sortPriv% PySem.Builtin.mergeAt
def wri (a m : Array Keyed) (sa : Nat) : Array Keyed := m.toList.zipIdx.foldl (fun a (p, j) => a.setIfInBounds (sa + j) p) a
theorem mat_eq0 (i : Nat) : mat i = (do
 let s ← get
 let (some (sa, na, power), some (sb, nb, _)) := ((pendingOf s)[i]?, (pendingOf s)[i + 1]?) | unsupported "internal:list.sort.pending"
 set (SortSt.mk' (kindOf s) (arrOf s) (((pendingOf s).setIfInBounds i (sa, na + nb, power)).eraseIdxIfInBounds (i + 1)) (gallopOf s) (failedOf s))
 let some k ← gal false (← elem' (arrOf s) sb) (arrOf s) sa na 0 | return false
 let (sa, na) := (sa + k, na - k)
 if na == 0 then return true
 let some nb ← gal true (← elem' (arrOf s) (sa + na - 1)) (arrOf s) sb nb (nb - 1) | return false
 if nb == 0 then return true
 let x := (arrOf s).extract sa sb
 let y := (arrOf s).extract sb (sb + nb)
 let merged ← if na ≤ nb then mlo x y else mhi x y
 modify fun s => SortSt.mk' (kindOf s) (merged.toList.zipIdx.foldl (fun a (p, j) => a.setIfInBounds (sa + j) p) (arrOf s)) (pendingOf s) (gallopOf s) (failedOf s)
 return (failedOf (← get)).isNone) := rfl
section
variable {prog : Program} {w : World} {A : Around} {E : Value → Shared → Prop} {s : Shared} {rk : Keyed → Int} {U : Keyed → Prop} {knd : SortKind} {xs0 : Array Keyed}
theorem wpS_set {st z : SortSt} {Q : PUnit → SortSt → Prop} (h : Q PUnit.unit z) : wpS (model prog w) A E s (set z) Q st := wpS_modify (f := fun _ => z) h
theorem wri_fold (l : List Keyed) : ∀ (a : Array Keyed) (sa n : Nat), sa + n + l.length ≤ a.size → let ys := (l.zipIdx n).foldl (fun a (p, j) => a.setIfInBounds (sa + j) p) a
   ys.size = a.size ∧ ∀ k, ys[k]? = if sa + n ≤ k ∧ k < sa + n + l.length then l[k - (sa + n)]? else a[k]? := by
 induction l with
 | nil =>
   intro a sa n h
   refine ⟨rfl, fun k => ?_⟩
   rw [if_neg (by simp)]
   rfl
 | cons x l ih =>
   intro a sa n h
   rw [List.length_cons] at h
   have := ih (a.setIfInBounds (sa + n) x) sa (n + 1) (by rw [Array.size_setIfInBounds]; omega)
   dsimp only at this
   rw [Array.size_setIfInBounds] at this
   refine ⟨this.1, fun k => ?_⟩
   have e := this.2 k
   rw [List.zipIdx_cons, List.foldl_cons]
   dsimp only
   rw [e, List.length_cons]
   by_cases h1 : k = sa + n
   · rw [if_neg (by omega), if_pos (by omega), h1, Array.getElem?_setIfInBounds]
     simp
     omega
   · by_cases h2 : sa + n + 1 ≤ k ∧ k < sa + n + 1 + l.length
     · rw [if_pos (by omega), if_pos (by omega), show k - (sa + n) = (k - (sa + (n + 1))) + 1 by omega, List.getElem?_cons_succ]
     · rw [if_neg (by omega), if_neg (by omega), Array.getElem?_setIfInBounds, if_neg (by omega)]
theorem Sf {a m : Array Keyed} {sa : Nat} (h : sa + m.size ≤ a.size) (k : Nat) : (wri a m sa)[k]? = if sa ≤ k ∧ k < sa + m.size then m[k - sa]? else a[k]? := by
 have := (wri_fold m.toList a sa 0 (by simpa using h)).2 k
 simpa [wri] using this
theorem wri_perm {a m : Array Keyed} {sa : Nat} (h : sa + m.size ≤ a.size) (p : m.toList.Perm ((a.toList.drop sa).take m.size)) : (wri a m sa).Perm a := by
 have e : (wri a m sa).toList = a.toList.take sa ++ (m.toList ++ a.toList.drop (sa + m.size)) := by
   apply List.ext_getElem?
   intro k
   rw [Array.getElem?_toList, Sf h]
   by_cases h1 : k < sa
   · rw [if_neg (by omega), List.getElem?_append_left (by simp; omega), List.getElem?_take, if_pos h1, Array.getElem?_toList]
   · rw [List.getElem?_append_right (by simp; omega), show (a.toList.take sa).length = sa by simp; omega]
     by_cases h2 : k < sa + m.size
     · rw [if_pos ⟨by omega, h2⟩, List.getElem?_append_left (by simp; omega), Array.getElem?_toList]
     · rw [if_neg (by omega), List.getElem?_append_right (by simp; omega), List.getElem?_drop, Array.getElem?_toList]
       simp only [Array.length_toList]
       rw [show sa + m.size + (k - sa - m.size) = k by omega]
 have e2 : a.toList = a.toList.take sa ++ ((a.toList.drop sa).take m.size ++ a.toList.drop (sa + m.size)) := by
   rw [← List.drop_drop, List.take_append_drop, List.take_append_drop]
 refine Array.perm_iff_toList_perm.mpr ?_
 rw [e]
 refine List.Perm.trans ?_ (List.Perm.of_eq e2.symm)
 exact List.Perm.append_left _ (List.Perm.append_right _ p)
end
end So
end
section
namespace So
open PySem PyProof.Rows
section
variable {prog : Program} {w : World} {A : Around} {E : Value → Shared → Prop} {s : Shared} {rk : Keyed → Int} {U : Keyed → Prop} {knd : SortKind} {xs0 : Array Keyed}
theorem srt_ext {a : Array Keyed} {i j lo hi : Nat} (sg : Seg rk a lo hi) (h1 : lo ≤ i) (h2 : j ≤ hi) : Srt rk (a.extract i j).toList := by
 rw [Yp]
 refine List.pairwise_iff_getElem.mpr fun p q hp hq hpq => ?_
 have hp' := hp
 have hq' := hq
 rw [List.length_take, List.length_drop, Array.length_toList] at hp' hq'
 have e1 : R rk a (i + p) = rk ((a.toList.drop i).take (j - i))[p] := by
   unfold R
   rw [show a[i + p]? = some ((a.toList.drop i).take (j - i))[p] by
     rw [List.getElem_take, List.getElem_drop, ← Array.getElem?_toList]
     exact List.getElem?_eq_getElem _]
 have e2 : R rk a (i + q) = rk ((a.toList.drop i).take (j - i))[q] := by
   unfold R
   rw [show a[i + q]? = some ((a.toList.drop i).take (j - i))[q] by
     rw [List.getElem_take, List.getElem_drop, ← Array.getElem?_toList]
     exact List.getElem?_eq_getElem _]
 rw [← e1, ← e2]
 exact sg _ _ (by omega) (by omega) (by omega)
theorem R_ext {a : Array Keyed} {i j k : Nat} (h : i + k < j) (hj : j ≤ a.size) : R rk (a.extract i j) k = R rk a (i + k) := by
 unfold R
 rw [Array.getElem?_extract, if_pos (by omega)]
theorem mem_ext {a : Array Keyed} {i j : Nat} {e : Keyed} (h : e ∈ a.extract i j) : e ∈ a := by
 have : e ∈ (a.extract i j).toList := h.val
 rw [Yp] at this
 exact ⟨List.mem_of_mem_drop (List.mem_of_mem_take this)⟩
theorem wri_ok {a m : Array Keyed} {sa na nb k n : Nat} (hz : sa + na + nb ≤ a.size) (hk : k < na) (hn : n ≤ nb) (hn0 : 0 < n) (s1 : Seg rk a sa (sa + na)) (s2 : Seg rk a (sa + na) (sa + na + nb))
   (l1 : ∀ i, i < k → R rk a (sa + i) ≤ R rk a (sa + na)) (l2 : ∀ i, k ≤ i → i < na → R rk a (sa + na) ≤ R rk a (sa + i)) (r1 : ∀ i, i < n → R rk a (sa + na + i) ≤ R rk a (sa + na - 1)) (r2 : ∀ i, n ≤ i → i < nb → R rk a (sa + na - 1) ≤ R rk a (sa + na + i))
   (g : Good rk (a.extract (sa + k) (sa + na)) (a.extract (sa + na) (sa + na + n)) m) : (wri a m (sa + k)).Perm a ∧ Seg rk (wri a m (sa + k)) sa (sa + na + nb) ∧ Out sa (sa + na + nb) a (wri a m (sa + k)) := by
 have ms : m.size = na - k + n := by
   have := g.1.length_eq
   simp at this
   omega
 have hb : sa + k + m.size ≤ a.size := by omega
 have cat : (a.toList.drop (sa + k)).take m.size = (a.extract (sa + k) (sa + na)).toList ++ (a.extract (sa + na) (sa + na + n)).toList := by
   rw [Yp, Yp, ms, show na - k = sa + na - (sa + k) by omega, List.take_add, List.drop_drop, show sa + k + (sa + na - (sa + k)) = sa + na by omega, show sa + na + n - (sa + na) = n by omega]
 refine ⟨wri_perm hb (by rw [cat]; exact g.1), ?_, fun q hq => by rw [Sf hb, if_neg (by omega)]⟩
 have mid : ∀ z, z ∈ m.toList → R rk a (sa + na) ≤ rk z ∧ rk z ≤ R rk a (sa + na - 1) := fun z hz' => by
   have := g.1.mem_iff.mp hz'
   rcases List.mem_append.mp this with h | h
   · rw [Yp] at h
     obtain ⟨q, q1, q2, q3⟩ := Xx (rk := rk) h
     rw [← q3]
     have a1 := l2 (k + q) (by omega) (by omega)
     rw [show sa + (k + q) = sa + k + q by omega] at a1
     exact ⟨a1, s1 _ _ (by omega) (by omega) (by omega)⟩
   · rw [Yp] at h
     obtain ⟨q, q1, q2, q3⟩ := Xx (rk := rk) h
     rw [← q3]
     exact ⟨s2 _ _ (by omega) (by omega) (by omega), r1 q (by omega)⟩
 have rmid : ∀ q, sa + k ≤ q → q < sa + k + m.size → R rk (wri a m (sa + k)) q = R rk m (q - (sa + k)) := fun q h1 h2 => by
   unfold R
   rw [Sf hb, if_pos ⟨h1, h2⟩]
 have rout : ∀ q, q < sa + k ∨ sa + k + m.size ≤ q → R rk (wri a m (sa + k)) q = R rk a q := fun q h1 => by
   unfold R
   rw [Sf hb, if_neg (by omega)]
 have rm2 : ∀ q, sa + k ≤ q → q < sa + k + m.size → R rk a (sa + na) ≤ R rk (wri a m (sa + k)) q ∧ R rk (wri a m (sa + k)) q ≤ R rk a (sa + na - 1) := fun q h1 h2 => by
   rw [rmid q h1 h2]
   obtain ⟨z, z1, z2, z3, z4⟩ := Yh (rk := rk) (x := m) (i := q - (sa + k)) (by omega)
   rw [z3]
   exact mid z (by simpa using z2)
 have sm := YG g.2 0 (Nat.le_refl m.size)
 intro p q hp hpq hq
 by_cases p1 : p < sa + k
 · rw [rout p (.inl p1)]
   have b1 := l1 (p - sa) (by omega)
   rw [show sa + (p - sa) = p by omega] at b1
   by_cases q1 : q < sa + k
   · rw [rout q (.inl q1)]
     exact s1 p q hp hpq (by omega)
   · by_cases q2 : q < sa + k + m.size
     · have := (rm2 q (by omega) q2).1
       omega
     · rw [rout q (.inr (by omega))]
       have := s2 (sa + na) q (Nat.le_refl _) (by omega) hq
       omega
 · by_cases p2 : p < sa + k + m.size
   · have b1 := rm2 p (by omega) p2
     by_cases q2 : q < sa + k + m.size
     · rw [rmid p (by omega) p2, rmid q (by omega) q2]
       exact sm _ _ (by omega) (by omega) (by omega)
     · rw [rout q (.inr (by omega))]
       have := r2 (q - (sa + na)) (by omega) (by omega)
       rw [show sa + na + (q - (sa + na)) = q by omega] at this
       omega
   · rw [rout p (.inr (by omega)), rout q (.inr (by omega))]
     exact s2 p q (by omega) hpq hq
theorem wpS_mat (c : Cmp prog w A E s rk U knd) (b : Base rk U xs0) {st : SortSt} (o : Ok rk U knd xs0 st) {i sa na nb pw pw2 : Nat} {Q : Bool → SortSt → Prop}
   (p1 : (pendingOf st)[i]? = some (sa, na, pw)) (p2 : (pendingOf st)[i + 1]? = some (sa + na, nb, pw2)) (na0 : 0 < na) (nb0 : 0 < nb) (hz : sa + na + nb ≤ xs0.size) (s1 : Seg rk (arrOf st) sa (sa + na)) (s2 : Seg rk (arrOf st) (sa + na) (sa + na + nb))
   (h : ∀ ys g, ys.Perm (arrOf st) → Seg rk ys sa (sa + na + nb) → Out sa (sa + na + nb) (arrOf st) ys → Q true (SortSt.mk' (kindOf st) ys (((pendingOf st).setIfInBounds i (sa, na + nb, pw)).eraseIdxIfInBounds (i + 1)) g (failedOf st))) : wpS (model prog w) A E s (mat i) Q st := by
 have hz2 : sa + na + nb ≤ (arrOf st).size := by rw [o.size]; exact hz
 have ua : ∀ e, e ∈ arrOf st → U e := fun e he => b.all _ (o.perm.mem_iff.mp he)
 rw [mat_eq0]
 refine wpS_bind (wpS_get ?_)
 rw [p1, p2]
 dsimp only
 refine wpS_bind (wpS_set ?_)
 obtain ⟨e, e1, e2, e3, e4⟩ := Yh (rk := rk) (x := arrOf st) (i := sa + na) (by omega)
 refine wpS_bind (Zx e1 ?_)
 have o2 : kindOf (SortSt.mk' (kindOf st) (arrOf st) (((pendingOf st).setIfInBounds i (sa, na + nb, pw)).eraseIdxIfInBounds (i + 1)) (gallopOf st) (failedOf st)) = knd := o.kind
 refine wpS_bind (XX c o2 (ua e e2) (by omega) ua s1 na0 fun k hk b1 b2 => ?_)
 dsimp only
 have l1 : ∀ i, i < k → R rk (arrOf st) (sa + i) ≤ R rk (arrOf st) (sa + na) := fun q hq => by
   have := b1 q hq
   unfold Bey at this
   rw [if_neg (by simp)] at this
   omega
 have l2 : ∀ i, k ≤ i → i < na → R rk (arrOf st) (sa + na) ≤ R rk (arrOf st) (sa + i) := fun q hq hq2 => by
   have := b2 q hq hq2
   unfold Bey at this
   rw [if_neg (by simp)] at this
   omega
 by_cases hkn : na - k = 0
 · rw [if_pos (by simpa using hkn)]
   refine wpS_pure (h (arrOf st) (gallopOf st) (Array.Perm.refl _) (fun p q hp hpq hq => ?_) fun _ _ => rfl)
   by_cases hq1 : q < sa + na
   · exact s1 p q hp hpq hq1
   · by_cases hp1 : p < sa + na
     · have a1 := l1 (p - sa) (by omega)
       rw [show sa + (p - sa) = p by omega] at a1
       have a2 := s2 (sa + na) q (Nat.le_refl _) (by omega) hq
       omega
     · exact s2 p q (by omega) hpq hq
 rw [if_neg (by simpa using hkn)]
 obtain ⟨f, f1, f2, f3, f4⟩ := Yh (rk := rk) (x := arrOf st) (i := sa + k + (na - k) - 1) (by omega)
 refine wpS_bind (Zx f1 ?_)
 have ef : sa + k + (na - k) - 1 = sa + na - 1 := by omega
 rw [ef] at f3
 refine wpS_bind (XX c o2 (ua f f2) (by omega) ua s2 (by omega) fun n hn c1 c2 => ?_)
 dsimp only
 have r1 : ∀ i, i < n → R rk (arrOf st) (sa + na + i) ≤ R rk (arrOf st) (sa + na - 1) := fun q hq => by
   have := c1 q hq
   unfold Bey at this
   rw [if_pos rfl] at this
   omega
 have r2 : ∀ i, n ≤ i → i < nb → R rk (arrOf st) (sa + na - 1) ≤ R rk (arrOf st) (sa + na + i) := fun q hq hq2 => by
   have := c2 q hq hq2
   unfold Bey at this
   rw [if_pos rfl] at this
   omega
 by_cases hn0 : n = 0
 · rw [if_pos (by simpa using hn0)]
   refine wpS_pure (h (arrOf st) (gallopOf st) (Array.Perm.refl _) (fun p q hp hpq hq => ?_) fun _ _ => rfl)
   by_cases hq1 : q < sa + na
   · exact s1 p q hp hpq hq1
   · by_cases hp1 : p < sa + na
     · have a1 := r2 (q - (sa + na)) (by omega) (by omega)
       rw [show sa + na + (q - (sa + na)) = q by omega] at a1
       have a2 := s1 p (sa + na - 1) hp (by omega) (by omega)
       omega
     · exact s2 p q (by omega) hpq hq
 rw [if_neg (by simpa using hn0)]
 have xs : ((arrOf st).extract (sa + k) (sa + na)).size = na - k := by simp; omega
 have ys : ((arrOf st).extract (sa + na) (sa + na + n)).size = n := by simp; omega
 have ux : ∀ e, e ∈ (arrOf st).extract (sa + k) (sa + na) → U e := fun e he => ua e (mem_ext he)
 have uy : ∀ e, e ∈ (arrOf st).extract (sa + na) (sa + na + n) → U e := fun e he => ua e (mem_ext he)
 have sx := srt_ext (i := sa + k) (j := sa + na) s1 (by omega) (Nat.le_refl _)
 have sy := srt_ext (i := sa + na) (j := sa + na + n) s2 (by omega) (by omega)
 have mx : ∀ m, m < ((arrOf st).extract (sa + na) (sa + na + n)).size → R rk ((arrOf st).extract (sa + na) (sa + na + n)) m ≤ R rk ((arrOf st).extract (sa + k) (sa + na)) (((arrOf st).extract (sa + k) (sa + na)).size - 1) := fun m hm => by
   rw [ys] at hm
   rw [xs, R_ext (by omega) (by omega), R_ext (by omega) (by omega), show sa + k + (na - k - 1) = sa + na - 1 by omega]
   exact r1 m hm
 have mn : ∀ m, m < ((arrOf st).extract (sa + k) (sa + na)).size → R rk ((arrOf st).extract (sa + na) (sa + na + n)) 0 ≤ R rk ((arrOf st).extract (sa + k) (sa + na)) m := fun m hm => by
   rw [xs] at hm
   rw [R_ext (by omega) (by omega), R_ext (by omega) (by omega), show sa + k + m = sa + (k + m) by omega, Nat.add_zero]
   exact l2 (k + m) (by omega) (by omega)
 have fin : ∀ m g, Good rk ((arrOf st).extract (sa + k) (sa + na)) ((arrOf st).extract (sa + na) (sa + na + n)) m → Q (failedOf st).isNone (SortSt.mk' (kindOf st) (wri (arrOf st) m (sa + k)) (((pendingOf st).setIfInBounds i (sa, na + nb, pw)).eraseIdxIfInBounds (i + 1)) g (failedOf st)) := fun m g gd => by
   have := wri_ok hz2 (by omega) hn (by omega) s1 s2 l1 l2 r1 r2 gd
   have q := h _ g this.1 this.2.1 this.2.2
   rw [o.failed] at q ⊢
   exact q
 by_cases hl : na - k ≤ n
 · rw [if_pos hl]
   refine wpS_bind (wpS_mlo c ⟨ux, uy, sx, sy, mx⟩ o2 (by omega) (by omega) mn fun m g gd => ?_)
   refine wpS_bind (wpS_modify (wpS_bind (wpS_get (wpS_pure ?_))))
   exact fin m g gd
 · rw [if_neg hl]
   refine wpS_bind (wpS_mhi c ⟨ux, uy, sx, sy, mn⟩ o2 (by omega) (by omega) mx fun m g gd => ?_)
   refine wpS_bind (wpS_modify (wpS_bind (wpS_get (wpS_pure ?_))))
   exact fin m g gd
end
end So
end
section
namespace So
open PySem PyProof.Rows
section
variable {rk : Keyed → Int} {a b : Array Keyed}
def Pd (rk : Keyed → Int) (a : Array Keyed) : List (Nat × Nat × Nat) → Nat → Nat → Prop
 | [], lo, hi => lo = hi
 | (st, n, _) :: r, lo, hi => st = lo ∧ 0 < n ∧ Seg rk a lo (lo + n) ∧ Pd rk a r (lo + n) hi
theorem Pd.app : ∀ {p q : List (Nat × Nat × Nat)} {lo hi : Nat}, Pd rk a (p ++ q) lo hi → ∃ m, Pd rk a p lo m ∧ Pd rk a q m hi
 | [], q, lo, hi, h => ⟨lo, rfl, h⟩
 | (st, n, x) :: r, q, lo, hi, h => by
   obtain ⟨h1, h2, h3, h4⟩ := h
   obtain ⟨m, h5, h6⟩ := Pd.app h4
   exact ⟨m, ⟨h1, h2, h3, h5⟩, h6⟩
theorem Pd.join : ∀ {p q : List (Nat × Nat × Nat)} {lo m hi : Nat}, Pd rk a p lo m → Pd rk a q m hi → Pd rk a (p ++ q) lo hi
 | [], q, lo, m, hi, h, g => by
   have e : lo = m := h
   rw [e]
   exact g
 | (st, n, x) :: r, q, lo, m, hi, h, g => ⟨h.1, h.2.1, h.2.2.1, Pd.join h.2.2.2 g⟩
theorem Pd.len : ∀ {p : List (Nat × Nat × Nat)} {lo hi : Nat}, Pd rk a p lo hi → lo + p.length ≤ hi
 | [], lo, hi, h => by
   have e : lo = hi := h
   simp [e]
 | (st, n, x) :: r, lo, hi, h => by
   have := Pd.len h.2.2.2
   have := h.2.1
   rw [List.length_cons]
   omega
theorem Seg.out {i j k l : Nat} (o : Out i j a b) (h : l ≤ i ∨ j ≤ k) (s : Seg rk a k l) : Seg rk b k l := fun p q h1 h2 h3 => by
 rw [o.R (by omega), o.R (by omega)]
 exact s p q h1 h2 h3
theorem Pd.out : ∀ {p : List (Nat × Nat × Nat)} {lo hi i j : Nat}, Out i j a b → hi ≤ i ∨ j ≤ lo → Pd rk a p lo hi → Pd rk b p lo hi
 | [], lo, hi, i, j, _, _, h => h
 | (st, n, x) :: r, lo, hi, i, j, o, c, h => by
   have l := Pd.len h.2.2.2
   exact ⟨h.1, h.2.1, h.2.2.1.out o (by omega), Pd.out o (by omega) h.2.2.2⟩
theorem at2 {α : Type} : ∀ {l : List α} {i : Nat} {u v : α}, l[i]? = some u → l[i + 1]? = some v → ∃ p q, l = p ++ u :: v :: q ∧ p.length = i
 | [], i, u, v, h, _ => by simp at h
 | [x], 0, u, v, _, h => by simp at h
 | x :: y :: q, 0, u, v, h, g => by
   simp at h g
   exact ⟨[], q, by simp [h, g], rfl⟩
 | x :: l, i + 1, u, v, h, g => by
   rw [List.getElem?_cons_succ] at h g
   obtain ⟨p, q, e, hl⟩ := at2 h g
   exact ⟨x :: p, q, by simp [e], by simp [hl]⟩
theorem pend_merge {α : Type} (l : Array α) (p q : List α) (u v z : α) (e : l.toList = p ++ u :: v :: q) : ((l.setIfInBounds p.length z).eraseIdxIfInBounds (p.length + 1)).toList = p ++ z :: q := by
 have hz : p.length + 1 < l.size := by
   have := congrArg List.length e
   simp at this
   omega
 have : (l.setIfInBounds p.length z).eraseIdxIfInBounds (p.length + 1) = (l.setIfInBounds p.length z).eraseIdx (p.length + 1) (by simpa using hz) := by
   unfold Array.eraseIdxIfInBounds
   rw [dif_pos (by simpa using hz)]
 rw [this, Array.toList_eraseIdx, Array.toList_setIfInBounds, e]
 rw [List.set_append_right _ _ (Nat.le_refl _), Nat.sub_self, List.set_cons_zero, List.eraseIdx_append_of_length_le (by simp)]
 simp
theorem Tm {α : Type} {l : Array α} {u : α} (h : l.back? = some u) : ∃ p, l.toList = p ++ [u] := by
 have : l.toList.getLast? = some u := by simpa using h
 exact List.getLast?_eq_some_iff.mp this
theorem Uf {α : Type} : ∀ (p : List α) (u : α) (f : α → α), (p ++ [u]).modify p.length f = p ++ [f u]
 | [], u, f => rfl
 | x :: p, u, f => by
   rw [List.cons_append, List.length_cons, List.modify_succ_cons, Uf p u f]
   rfl
theorem pend_modify {α : Type} (l : Array α) (p : List α) (u : α) (f : α → α) (e : l.toList = p ++ [u]) : (l.modify (l.size - 1) f).toList = p ++ [f u] := by
 have hz : l.size = p.length + 1 := by
   have := congrArg List.length e
   simpa using this
 rw [Array.toList_modify, e, hz, Nat.add_sub_cancel]
 exact Uf p u f
end
section
variable {prog : Program} {w : World} {A : Around} {E : Value → Shared → Prop} {s : Shared} {rk : Keyed → Int} {U : Keyed → Prop} {knd : SortKind} {xs0 : Array Keyed}
structure Rs (rk : Keyed → Int) (U : Keyed → Prop) (knd : SortKind) (xs0 : Array Keyed) (hi : Nat) (st : SortSt) : Prop where
 ok : Ok rk U knd xs0 st
 pd : Pd rk (arrOf st) (pendingOf st).toList 0 hi
theorem wpS_mrg (c : Cmp prog w A E s rk U knd) (b : Base rk U xs0) {st : SortSt} {hi : Nat} (r : Rs rk U knd xs0 hi st) (hz : hi ≤ xs0.size) {i : Nat} (h1 : i + 1 < (pendingOf st).size) {Q : Bool → SortSt → Prop}
   (h : ∀ st', Rs rk U knd xs0 hi st' → (pendingOf st').size + 1 = (pendingOf st).size → Out 0 hi (arrOf st) (arrOf st') → Q true st') : wpS (model prog w) A E s (mergeAt' i) Q st := by
 obtain ⟨⟨sa, na, pw⟩, eu⟩ : ∃ u, (pendingOf st).toList[i]? = some u := ⟨_, List.getElem?_eq_getElem (by simpa using (show i < (pendingOf st).size by omega))⟩
 obtain ⟨⟨sb, nb, pw2⟩, ev⟩ : ∃ u, (pendingOf st).toList[i + 1]? = some u := ⟨_, List.getElem?_eq_getElem (by simpa using h1)⟩
 obtain ⟨p, q, e, el⟩ := at2 eu ev
 have pd := r.pd
 rw [e] at pd
 obtain ⟨m, pd1, g1, g2, g3, k1, k2, k3, pd2⟩ := pd.app
 subst g1 k1
 have l1 := pd1.len
 have l2 := pd2.len
 rw [Array.getElem?_toList] at eu ev
 refine wpS_mat c b r.ok eu ev g2 k2 (by omega) g3 k3 fun ys g py sy oy => ?_
 have en := pend_merge (pendingOf st) p q _ _ (sa, na + nb, pw) e
 rw [el] at en
 refine h _ ⟨⟨r.ok.kind, r.ok.failed, py.trans r.ok.perm⟩, ?_⟩ ?_ fun k hk => oy k (by omega)
 · show Pd rk ys (((pendingOf st).setIfInBounds i (sa, na + nb, pw)).eraseIdxIfInBounds (i + 1)).toList 0 hi
   rw [en]
   refine (pd1.out oy (.inl (Nat.le_refl _))).join ⟨rfl, by omega, by rw [← Nat.add_assoc]; exact sy, ?_⟩
   rw [← Nat.add_assoc]
   exact pd2.out oy (.inr (Nat.le_refl _))
 · have a1 := congrArg List.length en
   have a2 := congrArg List.length e
   show (((pendingOf st).setIfInBounds i (sa, na + nb, pw)).eraseIdxIfInBounds (i + 1)).size + 1 = _
   rw [Array.length_toList, List.length_append, List.length_cons] at a1
   rw [Array.length_toList, List.length_append, List.length_cons, List.length_cons] at a2
   omega
def tl (z lo n : Nat) : StateT SortSt Sem (ForInStep (Option Unit × Nat)) := do
 let g ← get
 match (pendingOf g).back? with
 | some (s1, n1, _) => do
   let x ← forIn [0:z] ((none, ()) : Option Unit × Unit) fun _ _ => do
     let g ← get
     match (if (pendingOf g).size > 1 then (pendingOf g)[(pendingOf g).size - 2]? else none) with
     | some (_, _, older) =>
       (if older ≤ power' z (2 * s1 + n1) (2 * s1 + n1 + n1 + n) z then pure (ForInStep.done (none, ()))
         else do
           let k ← mergeAt' ((pendingOf g).size - 2)
           if (!k) = true then pure (ForInStep.done (some (), ())) else pure (ForInStep.yield (none, ())))
     | _ => pure (ForInStep.done (none, ()))
   match x.fst with
   | some r => pure (ForInStep.done (some r, lo))
   | none => do
     modify fun s => setPending s ((pendingOf s).modify ((pendingOf s).size - 1) fun x => (x.fst, x.2.fst, power' z (2 * s1 + n1) (2 * s1 + n1 + n1 + n) z))
     modify fun s => setPending s ((pendingOf s).push (lo, n, 0))
     pure (ForInStep.yield (none, lo + n))
 | _ => do
   modify fun s => setPending s ((pendingOf s).push (lo, n, 0))
   pure (ForInStep.yield (none, lo + n))
theorem Pd.push {a : Array Keyed} {p : List (Nat × Nat × Nat)} {lo n x : Nat} (h : Pd rk a p 0 lo) (hn : 0 < n) (s : Seg rk a lo (lo + n)) : Pd rk a (p ++ [(lo, n, x)]) 0 (lo + n) := h.join ⟨rfl, hn, s, rfl⟩
theorem Rs.push {lo n : Nat} {st : SortSt} (r : Rs rk U knd xs0 lo st) (hn : 0 < n) (sg : Seg rk (arrOf st) lo (lo + n)) : Rs rk U knd xs0 (lo + n) (setPending st ((pendingOf st).push (lo, n, 0))) := by
 refine ⟨⟨r.ok.kind, r.ok.failed, r.ok.perm⟩, ?_⟩
 show Pd rk (arrOf st) ((pendingOf st).push (lo, n, 0)).toList 0 (lo + n)
 rw [Array.toList_push]
 exact r.pd.push hn sg
theorem tl_ok (c : Cmp prog w A E s rk U knd) (b : Base rk U xs0) {lo n : Nat} {st : SortSt} (r : Rs rk U knd xs0 lo st) (hn : 0 < n) (hz : lo + n ≤ xs0.size) (sg : Seg rk (arrOf st) lo (lo + n)) {Q : ForInStep (Option Unit × Nat) → SortSt → Prop}
   (h : ∀ st', Rs rk U knd xs0 (lo + n) st' → Q (.yield (none, lo + n)) st') : wpS (model prog w) A E s (tl xs0.size lo n) Q st := by
 unfold tl
 refine wpS_bind (wpS_get ?_)
 cases hb : (pendingOf st).back? with
 | none =>
   dsimp only
   exact wpS_bind (wpS_modify (wpS_pure (h _ (r.push hn sg))))
 | some u =>
   obtain ⟨s1, n1, x1⟩ := u
   dsimp only
   generalize power' xs0.size (2 * s1 + n1) (2 * s1 + n1 + n1 + n) xs0.size = pw
   have p0 : 0 < (pendingOf st).size := by
     obtain ⟨p, e⟩ := Tm hb
     have := congrArg List.length e
     simp at this
     omega
   refine wpS_bind (wpS_mono (wpS_forRange (I := fun _ x st' => x = (none, ()) ∧ Rs rk U knd xs0 lo st' ∧ Seg rk (arrOf st') lo (lo + n) ∧ 0 < (pendingOf st').size) (Q := fun x st' => x = (none, ()) ∧ Rs rk U knd xs0 lo st' ∧ Seg rk (arrOf st') lo (lo + n) ∧ 0 < (pendingOf st').size) ?is ?ie ⟨rfl, r, sg, p0⟩) ?ip)
   case ie => exact fun _ _ h => h
   case is =>
     rintro t x st' _ _ ⟨rfl, r, sg, p0⟩
     refine wpS_bind (wpS_get ?_)
     by_cases h1 : (pendingOf st').size > 1
     · rw [if_pos h1]
       obtain ⟨⟨z1, z2, z3⟩, hz3⟩ : ∃ u, (pendingOf st')[(pendingOf st').size - 2]? = some u := ⟨_, Array.getElem?_eq_getElem (by omega)⟩
       rw [hz3]
       dsimp only
       by_cases ho : z3 ≤ pw
       · rw [if_pos ho]
         exact wpS_pure ⟨rfl, r, sg, p0⟩
       · rw [if_neg ho]
         refine wpS_bind (wpS_mrg c b r (by omega) (by omega) fun st2 r2 hs o2 => ?_)
         rw [if_neg (by simp)]
         exact wpS_pure ⟨rfl, r2, sg.out o2 (.inr (Nat.le_refl _)), by omega⟩
     · rw [if_neg h1]
       exact wpS_pure ⟨rfl, r, sg, p0⟩
   case ip =>
     rintro x st' ⟨rfl, r, sg, p0⟩
     dsimp only
     obtain ⟨u, hu⟩ : ∃ u, (pendingOf st').back? = some u := ⟨_, by rw [Array.back?_eq_getElem?]; exact Array.getElem?_eq_getElem (by omega)⟩
     obtain ⟨p, e⟩ := Tm hu
     have e2 := pend_modify (pendingOf st') p u (fun x => (x.fst, x.2.fst, pw)) e
     have r2 : Rs rk U knd xs0 lo (setPending st' ((pendingOf st').modify ((pendingOf st').size - 1) fun x => (x.fst, x.2.fst, pw))) := by
       refine ⟨⟨r.ok.kind, r.ok.failed, r.ok.perm⟩, ?_⟩
       show Pd rk (arrOf st') ((pendingOf st').modify ((pendingOf st').size - 1) fun x => (x.fst, x.2.fst, pw)).toList 0 lo
       have pd := r.pd
       rw [e] at pd
       rw [e2]
       obtain ⟨m, pd1, pd2⟩ := pd.app
       exact pd1.join pd2
     exact wpS_bind (wpS_modify (wpS_bind (wpS_modify (wpS_pure (h _ (r2.push hn sg))))))
theorem wpS_sorts (c : Cmp prog w A E s rk U knd) (b : Base rk U xs0) {st : SortSt} (o : Ok rk U knd xs0 st) (hp : pendingOf st = #[]) (h2 : 2 ≤ xs0.size) {Q : Unit → SortSt → Prop}
   (h : ∀ st', (arrOf st').Perm xs0 → failedOf st' = none → Seg rk (arrOf st') 0 xs0.size → Q () st') : wpS (model prog w) A E s sortRuns' Q st := by
 rw [sortRuns'_eq]
 refine wpS_bind (wpS_get ?_)
 dsimp only
 rw [o.size]
 generalize hm : minRun' xs0.size xs0.size 0 = mr
 refine wpS_bind (wpS_mono (wpS_forRange (I := fun t x st' => ∃ lo, x = (none, lo) ∧ t ≤ lo ∧ lo ≤ xs0.size ∧ Rs rk U knd xs0 lo st') (Q := fun x st' => ∃ y, x = (none, y) ∧ Rs rk U knd xs0 xs0.size st') ?os ?oe ⟨0, rfl, Nat.le_refl _, Nat.zero_le _, o, ?o0⟩) ?op)
 case o0 =>
   rw [hp]
   exact rfl
 case oe =>
   rintro x st' ⟨lo, rfl, h3, h4, r⟩
   have e : lo = xs0.size := by omega
   subst e
   exact ⟨_, rfl, r⟩
 case os =>
   rintro t x st' _ ht ⟨lo, rfl, h3, h4, r⟩
   dsimp only
   by_cases hlo : lo ≥ xs0.size
   · rw [if_pos hlo]
     have e : lo = xs0.size := by omega
     subst e
     exact wpS_pure ⟨_, rfl, r⟩
   rw [if_neg hlo]
   refine wpS_bind (wpS_run c b r.ok (by omega) (by omega) fun m ys m1 m2 py sy oy => ?_)
   dsimp only
   have r2 : Rs rk U knd xs0 lo (setArr st' ys) := ⟨r.ok.set py, r.pd.out oy (.inl (Nat.le_refl _))⟩
   by_cases hmr : m < mr
   · rw [if_pos hmr]
     refine wpS_bind (wpS_lift (wpAny_rule ⟨rfl, ?_⟩))
     refine wpS_bind (wpS_bin c b r2.ok (by omega) (by omega) sy fun zs pz sz oz => ?_)
     rw [if_neg (by simp)]
     have r3 : Rs rk U knd xs0 lo (setArr (setArr st' ys) zs) := ⟨r2.ok.set pz, r2.pd.out oz (.inl (Nat.le_refl _))⟩
     refine Eq.mpr (congrArg (fun T => wpS (model prog w) A E s T _ _) (?e3 : _ = tl xs0.size lo (min (xs0.size - lo) mr))) ?_
     · unfold tl
       congr 1
       funext g
       cases (pendingOf g).back? with
       | none => rfl
       | some u =>
         dsimp only
         congr 1
         funext ⟨x1, x2⟩
         cases x1 <;> rfl
     exact tl_ok c b r3 (by omega) (by omega) sz fun st3 r4 => ⟨_, rfl, by omega, by omega, r4⟩
   · rw [if_neg hmr]
     refine Eq.mpr (congrArg (fun T => wpS (model prog w) A E s T _ _) (?e2 : _ = tl xs0.size lo m)) ?_
     · unfold tl
       congr 1
       funext g
       cases (pendingOf g).back? with
       | none => rfl
       | some u =>
         dsimp only
         congr 1
         funext ⟨x1, x2⟩
         cases x1 <;> rfl
     exact tl_ok c b r2 (by omega) (by omega) sy fun st3 r4 => ⟨_, rfl, by omega, by omega, r4⟩
 case op =>
   rintro x st' ⟨y, rfl, r⟩
   dsimp only
   have l0 := r.pd.len
   rw [Nat.zero_add, Array.length_toList] at l0
   refine wpS_bind (wpS_mono (wpS_forRange (I := fun t x st' => x = (none, ()) ∧ Rs rk U knd xs0 xs0.size st' ∧ (pendingOf st').size + t ≤ xs0.size) (Q := fun x st' => x = (none, ()) ∧ Rs rk U knd xs0 xs0.size st' ∧ (pendingOf st').size ≤ 1) ?fs ?fe ⟨rfl, r, l0⟩) ?fp)
   case fe =>
     rintro x st' ⟨rfl, r, l⟩
     exact ⟨rfl, r, by omega⟩
   case fs =>
     rintro t x st' _ ht ⟨rfl, r, l⟩
     refine wpS_bind (wpS_get ?_)
     by_cases h1 : (pendingOf st').size ≤ 1
     · rw [if_pos h1]
       exact wpS_pure ⟨rfl, r, h1⟩
     · rw [if_neg h1]
       refine wpS_bind (wpS_mrg c b r (Nat.le_refl _) ?_ fun st2 r2 hs _ => ?_)
       · generalize Option.any _ _ = bb
         cases bb <;> simp <;> omega
       · rw [if_neg (by simp)]
         exact wpS_pure ⟨rfl, r2, by omega⟩
   case fp =>
     rintro x st' ⟨rfl, r, l⟩
     dsimp only
     refine wpS_pure (h _ r.ok.perm r.ok.failed ?_)
     have pd := r.pd
     have ll : (pendingOf st').toList.length ≤ 1 := by rw [Array.length_toList]; exact l
     generalize (pendingOf st').toList = p at pd ll
     match p, pd, ll with
     | [], pd, _ =>
       have e : 0 = xs0.size := pd
       omega
     | [(u, n, x)], pd, _ =>
       obtain ⟨_, _, q, e⟩ := pd
       have e' : 0 + n = xs0.size := e
       rw [e'] at q
       exact q
end
end So
end
section
namespace So
open PySem PySem.Spec PyProof.Rows L2
structure Tr where
 ad : Addr
 tk : Int
 no : Int
 nm : Str
section
variable {prog : Program} {w : World} {A : Around} {E : Value → Shared → Prop} {s : Shared}
def trk (r : Tr) : Int := r.tk * 64 + r.no
def rkT (rs : List Tr) (p : Keyed) : Int := match p.1 with
 | .ref a => ((rs.find? fun r => r.ad == a).map trk).getD 0
 | _ => 0
def UT (rs : List Tr) (p : Keyed) : Prop := ∃ r ∈ rs, p = (.ref r.ad, .ref r.ad)
structure TrOk (h : Heap) (rs : List Tr) : Prop where
 at_ : ∀ r ∈ rs, ∃ t n u e o, h.get? r.ad = some o ∧ o.cls = .type "tuple" ∧ o.data = .seq #[.int r.tk t, .int r.no n, .str r.nm u] e
 lo : ∀ r ∈ rs, 0 ≤ r.no ∧ r.no < 64
 nd : (rs.map trk).Nodup
theorem TrOk.find {h : Heap} {rs : List Tr} (T : TrOk h rs) {r : Tr} (hr : r ∈ rs) : rs.find? (fun x => x.ad == r.ad) = some r := by
 cases e : rs.find? (fun x => x.ad == r.ad) with
 | none =>
   have := List.find?_eq_none.mp e r hr
   simp at this
 | some x =>
   have hx := List.mem_of_find?_eq_some e
   have ea : x.ad = r.ad := by simpa using List.find?_some e
   obtain ⟨t, n, u, e1, o, h1, h2, h3⟩ := T.at_ r hr
   obtain ⟨t', n', u', e1', o', h1', h2', h3'⟩ := T.at_ x hx
   rw [ea, h1] at h1'
   cases h1'
   rw [h3] at h3'
   have et : trk x = trk r := by
     unfold trk
     injection h3' with h4 h5
     have := congrArg Array.toList h4
     simp at this
     rw [this.1.1, this.2.1.1]
   obtain ⟨i, hi, rfl⟩ := List.mem_iff_getElem.mp hx
   obtain ⟨j, hj, rfl⟩ := List.mem_iff_getElem.mp hr
   have ij : i = j := (List.getElem_inj (h₀ := by simpa using hi) (h₁ := by simpa using hj) T.nd).mp (by simpa using et)
   subst ij
   rfl
theorem TrOk.rk {h : Heap} {rs : List Tr} (T : TrOk h rs) {r : Tr} (hr : r ∈ rs) (v : Value) : rkT rs (.ref r.ad, v) = trk r := by
 unfold rkT
 dsimp only
 rw [T.find hr]
 rfl
theorem cmpT {rs : List Tr} (T : TrOk s.heap rs) : Cmp prog w A E s (rkT rs) (UT rs) (tuples' true) := by
 rintro x y st Q ⟨r, hr, rfl⟩ ⟨q, hq, rfl⟩ hk h
 rw [T.rk hr, T.rk hq] at h
 rw [lt'_eq]
 refine wpS_bind (wpS_get ?_)
 rw [hk]
 obtain ⟨t, n, u, e1, o, h1, h2, h3⟩ := T.at_ r hr
 obtain ⟨t', n', u', e1', o', h1', h2', h3'⟩ := T.at_ q hq
 obtain ⟨l1, l2⟩ := T.lo r hr
 obtain ⟨l3, l4⟩ := T.lo q hq
 have fin : ∀ b : Bool, (b = true ↔ trk r < trk q) → wpS (model prog w) A E s (match (Except.ok b : Except Value Bool) with
     | .ok b => (pure (some b) : StateT SortSt Sem (Option Bool))
     | .error e => (do modify (fun s => SortSt.mk' (kindOf s) (arrOf s) (pendingOf s) (gallopOf s) (some e)); return none)) Q st := fun b hb => by
   have : b = decide (trk r < trk q) := by
     by_cases z : trk r < trk q
     · rw [decide_eq_true z]; exact hb.mpr z
     · rw [decide_eq_false z]
       cases b with
       | false => rfl
       | true => exact absurd (hb.mp rfl) z
   rw [this]
   exact wpS_pure h
 refine wpS_bind (wpS_lift (wpAny_attempt ?_))
 refine W.kat_lt h1 h3 h1' h3' ?_
 show W.KatLex prog w _ true _ _ [(.int r.tk t, .int q.tk t'), (.int r.no n, .int q.no n'), (.str r.nm u, .str q.nm u')] 0 s
 refine W.kat_cons (wpAny_eqBool_int ?_)
 by_cases e : r.tk = q.tk
 · rw [show (r.tk == q.tk) = true by simpa using e]
   refine W.kat_yes (W.kat_cons (wpAny_eqBool_int ?_))
   by_cases e' : r.no = q.no
   · have et : trk r = trk q := by unfold trk; omega
     rw [show (r.no == q.no) = true by simpa using e']
     have er : r = q := by
       obtain ⟨i, hi, rfl⟩ := List.mem_iff_getElem.mp hr
       obtain ⟨j, hj, rfl⟩ := List.mem_iff_getElem.mp hq
       have ij : i = j := (List.getElem_inj (h₀ := by simpa using hi) (h₁ := by simpa using hj) T.nd).mp (by simpa using et)
       subst ij
       rfl
     subst er
     refine W.kat_yes (W.kat_cons (eqBool_str ?_))
     rw [show (r.nm == r.nm) = true by simp]
     exact W.kat_yes (W.kat_nil ⟨rfl, fin _ (by simp)⟩)
   · rw [show (r.no == q.no) = false by simpa using e']
     refine W.kat_no (W.kat_one _ _ (lt_int ⟨rfl, fin _ ?_⟩))
     rw [decide_eq_true_iff]
     unfold trk
     omega
 · rw [show (r.tk == q.tk) = false by simpa using e]
   refine W.kat_no (oneLt_int ⟨rfl, fin _ ?_⟩)
   rw [decide_eq_true_iff]
   unfold trk
   omega
end
end So
end
section
namespace So
open PySem PySem.Spec PyProof.Rows L2
theorem perm_map {α β : Type} {f : α → β} {l m : List β} (p : l.Perm m) : ∀ rs : List α, m = rs.map f → ∃ rs' : List α, rs'.Perm rs ∧ rs'.map f = l := by
 induction p with
 | nil => intro rs e; exact ⟨rs, List.Perm.refl _, e.symm⟩
 | cons x p ih =>
   intro rs e
   cases rs with
   | nil => cases e
   | cons r rs =>
     rw [List.map_cons] at e
     injection e with e1 e2
     obtain ⟨rs', h1, h2⟩ := ih rs e2
     exact ⟨r :: rs', h1.cons r, by rw [List.map_cons, h2, e1]⟩
 | swap x y l =>
   intro rs e
   match rs, e with
   | [], e => cases e
   | [_], e => cases e
   | r1 :: r2 :: rs, e =>
     rw [List.map_cons, List.map_cons] at e
     injection e with e1 e2
     injection e2 with e2 e3
     exact ⟨r2 :: r1 :: rs, List.Perm.swap _ _ _, by rw [List.map_cons, List.map_cons, e1, e2, e3]⟩
 | trans p q ih1 ih2 =>
   intro rs e
   obtain ⟨rs1, h1, h2⟩ := ih2 rs e
   obtain ⟨rs2, h3, h4⟩ := ih1 rs1 h2.symm
   exact ⟨rs2, h3.trans h1, h4⟩
abbrev rf (r : Tr) : Value := .ref r.ad
section
variable {prog : Program} {w : World} {A : Around} {E : Value → Shared → Prop} {s : Shared}
theorem zip_self (rs : List Tr) : (rs.map rf).toArray.zip (rs.map rf).toArray = (rs.map fun r => ((rf r, rf r) : Keyed)).toArray := by
 apply Array.toList_inj.mp
 simp only [Array.toList_zip, List.zip_map']
theorem list_sort_T {a : Addr} {rs : List Tr} {n : Nat} {P : Fin → Shared → Prop} (ho : s.heap.get? a = some (seqObj "list" (rs.map rf).toArray n)) (T : TrOk s.heap rs) (ha : ∀ r ∈ rs, r.ad ≠ a) (hz : rs.length ≤ sizeLine)
   (h : ∀ rs' : List Tr, rs'.Perm rs → rs'.Pairwise (fun x y => trk x ≤ trk y) → P (.done (.ret .none)) { s with heap := sortedHeap s.heap a (rs.map rf) (rs'.map rf).toArray }) :
   wpAny (model prog w) A (Builtin.«list.sort» ⟨[.ref a], []⟩) P E s := by
 rw [list_sort_plain]
 have hL : a < s.heap.objs.size := Heap.lt_size ho
 refine wpAny_bind (listItems_at ho rfl ?_)
 refine wpAny_bind (listUpdate_at ho rfl ?_ (by simpa using hz) (Nat.zero_le _))
 obtain ⟨e1, ho1⟩ : ∃ e1, (s.heap.update a (Obj.mapSeq fun _ => #[])).get? a = some (seqObj "list" #[] e1) := ⟨_, get?_update_seq ho (fun _ => #[])⟩
 refine wpAny_bind (seqEpoch_at ho1 rfl ?_)
 refine wpAny_bind (wpAny_newTuple ?_ (by simpa using hz))
 refine wpAny_bind (wpAny_newList ?_ (Nat.zero_le _))
 refine wpAny_holding ?_
 have ho6 : (((s.heap.update a (Obj.mapSeq fun _ => #[])).push (seqObj "tuple" (rs.map rf).toArray 0)).push (seqObj "list" #[] 0)).get? a = some (seqObj "list" #[] e1) := by
   rw [Heap.get?_push_ne _ _ _ (by rw [size_push', Heap.size_update]; exact Nat.ne_of_lt (Nat.lt_succ_of_lt hL)), Heap.get?_push_ne _ _ _ (by rw [Heap.size_update]; exact Nat.ne_of_lt hL)]
   exact ho1
 show wpAny (model prog w) A _ P E { s with heap := ((s.heap.update a (Obj.mapSeq fun _ => #[])).push (seqObj "tuple" (rs.map rf).toArray 0)).push (seqObj "list" #[] 0) }
 have T6 : TrOk (((s.heap.update a (Obj.mapSeq fun _ => #[])).push (seqObj "tuple" (rs.map rf).toArray 0)).push (seqObj "list" #[] 0)) rs := by
   refine ⟨fun r hr => ?_, T.lo, T.nd⟩
   obtain ⟨t, n, u, e, o, h1, h2, h3⟩ := T.at_ r hr
   refine ⟨t, n, u, e, o, ?_, h2, h3⟩
   have hlt := Heap.lt_size h1
   rw [Heap.get?_push_ne _ _ _ (by rw [size_push', Heap.size_update]; exact Nat.ne_of_lt (Nat.lt_succ_of_lt hlt)), Heap.get?_push_ne _ _ _ (by rw [Heap.size_update]; exact Nat.ne_of_lt hlt), Heap.get?_update_ne _ _ _ _ (ha r hr)]
   exact h1
 dsimp only
 have hsz : (rs.map rf).toArray.size = rs.length := by simp
 by_cases h2 : (rs.map rf).toArray.size < 2
 · rw [if_pos h2, if_pos h2]
   refine wpAny_bind (wpAny_pure ?_)
   rw [StateT.run_pure]
   refine wpAny_bind (wpAny_pure ?_)
   dsimp only
   have eo : ((rs.map rf).toArray.zip (rs.map rf).toArray).map (·.2) = (rs.map rf).toArray := by
     rw [zip_self]
     apply Array.toList_inj.mp
     simp
   rw [eo]
   refine wpAny_bind (seqEpoch_at ho6 rfl ?_)
   refine wpAny_bind (listUpdate_at ho6 rfl ?_ (Nat.zero_le _) (by simp; omega))
   simp only [bne_self_eq_false, Bool.false_eq_true, if_false]
   refine wpAny_pure (h rs (List.Perm.refl _) ?_)
   rw [hsz] at h2
   match rs, h2 with
   | [], _ => exact List.Pairwise.nil
   | [_], _ => exact List.pairwise_singleton _ _
   | _ :: _ :: _, h2 => simp at h2; omega
 · rw [if_neg h2, if_neg h2]
   rw [hsz] at h2
   have kt : ∀ l : List Tr, (∀ r ∈ l, r ∈ rs) → ∃ fs : List Value, fs.length = l.length ∧ (∀ v ∈ fs, ∃ i t, v = .int i t) ∧ W.KatTups (((s.heap.update a (Obj.mapSeq fun _ => #[])).push (seqObj "tuple" (rs.map rf).toArray 0)).push (seqObj "list" #[] 0)) (l.map rf) fs := fun l => by
     induction l with
     | nil => exact fun _ => ⟨[], rfl, fun v hv => by (cases hv), W.KatTups.nil⟩
     | cons r l ih =>
       intro hl
       obtain ⟨fs, f1, f2, f3⟩ := ih fun x hx => hl x (.tail _ hx)
       obtain ⟨t, n, u, e, o, g1, g2, g3⟩ := T6.at_ r (hl r (.head _))
       refine ⟨.int r.tk t :: fs, by simp [f1], fun v hv => ?_, W.KatTups.cons g1 g2 g3 rfl f3⟩
       rcases List.mem_cons.mp hv with rfl | hv
       · exact ⟨_, _, rfl⟩
       · exact f2 v hv
   obtain ⟨fs, f1, f2, f3⟩ := kt rs fun _ h => h
   refine wpAny_bind (W.kat_kind (T := .type "int") f3 (by omega) (fun v hv => ?_) rfl ?_)
   · obtain ⟨i, t, rfl⟩ := f2 v hv
     exact W.Looks.now
   have ek : (Value.type "int" != Value.type "tuple") = true := by decide
   rw [ek, zip_self]
   have ba : Base (rkT rs) (UT rs) (rs.map fun r => ((rf r, rf r) : Keyed)).toArray := by
     refine ⟨fun x hx => ?_, ?_⟩
     · obtain ⟨r, hr, rfl⟩ := List.mem_map.mp (List.mem_toArray.mp hx)
       exact ⟨r, hr, rfl⟩
     · have : ((rs.map fun r => ((rf r, rf r) : Keyed)).map (rkT rs)) = rs.map trk := by
         rw [List.map_map]
         exact List.map_congr_left fun r hr => T6.rk hr _
       show ((rs.map fun r => ((rf r, rf r) : Keyed)).map (rkT rs)).Nodup
       rw [this]
       exact T.nd
   refine wpAny_bind (wpAny_mono (wpS_sorts (E := E) (cmpT T6) ba (st := SortSt.mk' (tuples' true) (rs.map fun r => ((rf r, rf r) : Keyed)).toArray #[] 7 none)
     (Q := fun _ st' => (arrOf st').Perm (rs.map fun r => ((rf r, rf r) : Keyed)).toArray ∧ failedOf st' = none ∧ Seg (rkT rs) (arrOf st') 0 (rs.map fun r => ((rf r, rf r) : Keyed)).toArray.size)
     ⟨rfl, rfl, Array.Perm.refl _⟩ rfl (by simp; omega) fun st' a1 a2 a3 => ⟨a1, a2, a3⟩) ?_ fun _ _ e => e)
   rintro ⟨⟨⟩, st'⟩ s' ⟨rfl, hp, hf, hs⟩
   dsimp only
   obtain ⟨rs', p1, p2⟩ := perm_map (f := fun r => ((rf r, rf r) : Keyed)) hp.toList rs rfl
   have ea : arrOf st' = (rs'.map fun r => ((rf r, rf r) : Keyed)).toArray := by
     apply Array.toList_inj.mp
     exact p2.symm
   have eo : (arrOf st').map (·.2) = (rs'.map rf).toArray := by
     rw [ea]
     apply Array.toList_inj.mp
     simp
   rw [eo]
   refine wpAny_bind (seqEpoch_at ho6 rfl ?_)
   refine wpAny_bind (listUpdate_at ho6 rfl ?_ (Nat.zero_le _) (by have := p1.length_eq; simp; omega))
   rw [hf]
   simp only [bne_self_eq_false, Bool.false_eq_true, if_false]
   refine wpAny_pure (h rs' p1 ?_)
   refine List.pairwise_iff_getElem.mpr fun i j hi hj hij => ?_
   have lz : (rs.map fun r => ((rf r, rf r) : Keyed)).toArray.size = rs'.length := by simp [p1.length_eq]
   have q := hs i j (Nat.zero_le _) (by omega) (by omega)
   have rr : ∀ k (hk : k < rs'.length), R (rkT rs) (arrOf st') k = trk rs'[k] := fun k hk => by
     unfold R
     rw [ea]
     have : (rs'.map fun r => ((rf r, rf r) : Keyed)).toArray[k]? = some (rf rs'[k], rf rs'[k]) := by simp [hk]
     rw [this]
     exact T6.rk (p1.mem_iff.mp (List.getElem_mem hk)) _
   rw [rr i hi, rr j hj] at q
   exact q
theorem sorted_T {l : Addr} {rs : List Tr} {Q : Value → Shared → Prop} (hl : s.heap.IsList l (rs.map rf).toArray) (T : TrOk s.heap rs) (hz : rs.length ≤ sizeLine)
   (h : ∀ rs' : List Tr, rs'.Perm rs → rs'.Pairwise (fun x y => trk x ≤ trk y) → Q (.ref (s.heap.objs.size + 1)) { s with heap := sortedAll s.heap (rs.map rf) (rs'.map rf).toArray }) :
   wpAny (model prog w) A (call (.builtin "sorted") [.ref l]) Q E s := by
 refine Calls.call_function_entry kind_sorted plain_sorted entry_sorted (args_sorted1 _) ?_
 unfold Builtin.«sorted»
 refine wpAny_bind (m := checkCount "sorted" 1 1 _) (wpAny_pure ?_)
 refine wpAny_bind (collect_list hl ?_ (by simpa using hz))
 refine wpAny_bind (wpAny_newList ?_ (by simpa using hz))
 have hsz : ((s.heap.push (seqObj "list" #[] 0)).update s.heap.objs.size (Obj.mapSeq (· ++ (rs.map rf).toArray))).objs.size = s.heap.objs.size + 1 := by
   rw [Heap.size_update, size_push']
 have hoL : (((s.heap.push (seqObj "list" #[] 0)).update s.heap.objs.size (Obj.mapSeq (· ++ (rs.map rf).toArray))).push (seqObj "list" (rs.map rf).toArray 0)).get? (s.heap.objs.size + 1) = some (seqObj "list" (rs.map rf).toArray 0) := by
   rw [← hsz]; exact Heap.get?_push_size _ rfl
 have keep : ∀ b o, s.heap.get? b = some o → (((s.heap.push (seqObj "list" #[] 0)).update s.heap.objs.size (Obj.mapSeq (· ++ (rs.map rf).toArray))).push (seqObj "list" (rs.map rf).toArray 0)).get? b = some o := fun b o q => by
   have hlt : b < s.heap.objs.size := Heap.lt_size q
   rw [Heap.get?_push_ne _ _ _ (by rw [hsz]; exact Nat.ne_of_lt (Nat.lt_succ_of_lt hlt)), Heap.get?_update_ne _ _ _ _ (Nat.ne_of_lt hlt), Heap.get?_push_ne _ _ _ (Nat.ne_of_lt hlt)]
   exact q
 show wpAny _ _ _ _ _ { s with heap := ((s.heap.push (seqObj "list" #[] 0)).update s.heap.objs.size (Obj.mapSeq (· ++ (rs.map rf).toArray))).push (seqObj "list" (rs.map rf).toArray 0) }
 rw [hsz]
 have T2 : TrOk (((s.heap.push (seqObj "list" #[] 0)).update s.heap.objs.size (Obj.mapSeq (· ++ (rs.map rf).toArray))).push (seqObj "list" (rs.map rf).toArray 0)) rs := by
   refine ⟨fun r hr => ?_, T.lo, T.nd⟩
   obtain ⟨t, n, u, e, o, h1, h2, h3⟩ := T.at_ r hr
   exact ⟨t, n, u, e, o, keep _ _ h1, h2, h3⟩
 refine wpAny_bind (wpAny_holding (wpAny_call_entry slot_list_sort ⟨_, hoL, rfl⟩ entry_list_sort (list_sort_T (s := { s with heap := ((s.heap.push (seqObj "list" #[] 0)).update s.heap.objs.size (Obj.mapSeq (· ++ (rs.map rf).toArray))).push (seqObj "list" (rs.map rf).toArray 0) }) hoL T2 (fun r hr => ?_) hz fun rs' a1 a2 => ⟨_, rfl, ?_⟩) (args_list_sort _)))
 · obtain ⟨t, n, u, e, o, h1, h2, h3⟩ := T.at_ r hr
   exact Nat.ne_of_lt (Nat.lt_succ_of_lt (Heap.lt_size h1))
 · exact wpAny_pure ⟨_, rfl, h rs' a1 a2⟩
end
section
variable {X : Cx}
def rSortedT (K : W.Frag) : List V → Hp → VK → Prop := fun xs H Q => ∃ (a : Addr) (rs : List Tr), xs = [.ref a] ∧ SqL K H a (rs.map fun r => V.ref r.ad) ∧ (∀ r ∈ rs, SqT K H r.ad [.int r.tk, .int r.no, .str r.nm]) ∧ (∀ r ∈ rs, 0 ≤ r.no ∧ r.no < 64) ∧ (rs.map trk).Nodup ∧
 ∀ rs' : List Tr, rs'.Perm rs → rs'.Pairwise (fun x y => trk x ≤ trk y) → ∀ p, H p = none → Q (.ref p) (upd H p (.lst (rs'.map fun r => V.ref r.ad)))
theorem call_sortedT : XV X (.builtin "sorted") (rSortedT X.K) := by
 intro pins s σ H xs us Q I r h
 obtain ⟨a, rs, rfl, hq, hT, hlo, hnd, k⟩ := h
 obtain ⟨u, rfl, ru⟩ := Ud r
 cases ru
 obtain ⟨its, rv, pl, hz⟩ := I.list hq
 rw [List.length_map] at hz
 have rv' : ∀ {rs : List Tr} {us : List Value}, Vals (rs.map fun r => V.ref r.ad) us → us = rs.map rf := fun {rs} => by
   induction rs with
   | nil => intro us h; cases h; rfl
   | cons r rs ih =>
     intro us h
     cases h with
     | cons a b =>
       rw [ih b]
       cases a
       rfl
 have bk : ∀ rs : List Tr, Vals (rs.map fun r => V.ref r.ad) (rs.map rf) := fun rs => by
   induction rs with
   | nil => exact .nil
   | cons r rs ih => exact .cons rfl ih
 have ei := rv' rv
 subst ei
 have T : TrOk s.heap rs := by
   refine ⟨fun r hr => ?_, hlo, hnd⟩
   obtain ⟨vs, rv', ⟨o, o1, o2, n, o3⟩, _⟩ := I.tuple (hT r hr)
   cases rv' with
   | cons r1 rv' =>
     cases rv' with
     | cons r2 rv' =>
       cases rv' with
       | cons r3 rv' =>
         cases rv'
         obtain ⟨t, rfl⟩ := r1
         obtain ⟨t2, rfl⟩ := r2
         obtain ⟨t3, rfl⟩ := r3
         exact ⟨t, t2, t3, n, o, o1, o2, o3⟩
 refine sorted_T pl.isList T hz fun rs' a1 a2 => ?_
 obtain ⟨e, he⟩ := sortedAll_at s.heap (rs.map rf) (rs'.map rf).toArray
 refine ⟨.ref (s.heap.objs.size + 1), _, I.laid (o := .lst (rs'.map fun r => V.ref r.ad)) (t' := s.toks) (fun b o q => sortedAll_old q) (Nat.le_succ _) ⟨?_, rs'.map rf, e, bk rs', he⟩, rfl, k rs' a1 a2 _ (I.hok.fresh (Nat.le_succ _))⟩
 rw [List.length_map, a1.length_eq]
 exact hz
end
end So
end
section
namespace Mir
section
variable {ν : Type}
def UC (goal : Int) (a : Al ν) : List Int := (List.range (cnt goal a)).map fun (i : Nat) => a.tick + a.step.getD 0 * (i : Int)
def one (goal n : Int) : Option (Al ν) → List (Int × Int × ν)
 | none => []
 | some a => (UC goal a).map fun t => (t, n, a.name)
def allR (goal : Int) (N : Nat) (f : Fn ν) : List (Int × Int × ν) := (List.range N).flatMap fun (i : Nat) => one goal i (f i)
theorem one_ring {goal n : Int} {a : Al ν} (h : a.tick ≤ goal) (good : ∀ k, a.step = some k → 0 < k) : one goal n (some a) = (a.tick, n, a.name) :: one goal n (after a) := by
 have e := TZ h good
 unfold one
 dsimp only
 unfold UC
 rw [← e, List.range_succ_eq_map, List.map_cons, List.map_cons]
 congr 1
 · simp
 · cases hs : a.step with
   | none =>
     have ea : after a = none := by unfold after; rw [hs]; rfl
     rw [ea]
     simp [cntO]
   | some k =>
     have ea : after a = some { a with tick := a.tick + k } := by unfold after; rw [hs]; rfl
     rw [ea]
     simp only [cntO, List.map_map]
     apply List.map_congr_left
     intro i _
     simp only [Function.comp, hs, Option.getD_some]
     have : a.tick + k * ((i.succ : Nat) : Int) = a.tick + k + k * (i : Int) := by
       rw [Int.natCast_succ, Int.mul_add]
       omega
     rw [this]
theorem one_far {goal n : Int} {a : Al ν} (h : goal < a.tick) : one goal n (some a) = [] := by
 unfold one
 dsimp only
 unfold UC cnt
 rw [if_neg (by omega)]
 rfl
theorem flat_change {α : Type} {N i : Nat} {g h : Nat → List α} {x : α} (hi : i < N) (e : g i = x :: h i) (same : ∀ j, j ≠ i → h j = g j) : ((List.range N).flatMap g).Perm (x :: (List.range N).flatMap h) := by
 induction N with
 | zero => omega
 | succ N ih =>
   rw [List.range_succ, List.flatMap_append, List.flatMap_append]
   simp only [List.flatMap_cons, List.flatMap_nil, List.append_nil]
   by_cases h1 : i = N
   · subst h1
     have : (List.range i).flatMap h = (List.range i).flatMap g := by
       simp only [List.flatMap_def]
       congr 1
       apply List.map_congr_left
       intro j hj
       have := List.mem_range.mp hj
       exact same j (by omega)
     rw [this, e]
     exact List.perm_middle
   · have p := ih (by omega)
     rw [same N (fun z => h1 z.symm)]
     exact p.append_right _
theorem Runs.all {goal : Int} {N : Nat} {f g : Fn ν} {l : List (Int × Int × ν)} (x : Runs goal f l g) (gd : GoodF N f) : l.Perm (allR goal N f) := by
 induction x with
 | @stop f h =>
   have : allR goal N f = [] := by
     unfold allR
     rw [List.flatMap_eq_nil_iff]
     intro i _
     cases e : f i with
     | none => rfl
     | some a => exact one_far (h _ a e)
   rw [this]
 | @ring f g n a l nx r ih =>
   obtain ⟨⟨h0, h1⟩, hs⟩ := gd n a nx.there
   have en : ((n.toNat : Nat) : Int) = n := by omega
   have p := ih (gd.ring nx.there)
   refine (p.cons _).trans (List.Perm.symm ?_)
   refine flat_change (i := n.toNat) (by omega) ?_ fun j hj => ?_
   · rw [en, nx.there, ZF]
     exact one_ring nx.due hs
   · rw [ZW _ _ (by omega)]
def Lex (x y : Int × Int × ν) : Prop := x.1 < y.1 ∨ (x.1 = y.1 ∧ x.2.1 < y.2.1)
theorem mem_all {goal : Int} {N : Nat} {f : Fn ν} {r : Int × Int × ν} (gd : GoodF N f) (h : r ∈ allR goal N f) : (0 ≤ r.2.1 ∧ r.2.1 < N) ∧ ∃ a, f r.2.1 = some a ∧ r.2.2 = a.name ∧ a.tick ≤ r.1 ∧ r.1 ≤ goal := by
 obtain ⟨i, hi, hr⟩ := List.mem_flatMap.mp h
 have hi' := List.mem_range.mp hi
 cases e : f i with
 | none => rw [e] at hr; cases hr
 | some a =>
   rw [e] at hr
   obtain ⟨t, ht, rfl⟩ := List.mem_map.mp hr
   obtain ⟨j, hj, rfl⟩ := List.mem_map.mp ht
   have hj' := List.mem_range.mp hj
   refine ⟨⟨by show (0 : Int) ≤ i; omega, by show (i : Int) < N; omega⟩, a, e, rfl, ?_⟩
   have gs := (gd _ a e).2
   unfold cnt at hj'
   by_cases hd : a.tick ≤ goal
   · rw [if_pos hd] at hj'
     cases hs : a.step with
     | none =>
       simp only [Option.getD_none, Int.zero_mul, Int.add_zero]
       exact ⟨Int.le_refl _, hd⟩
     | some k =>
       rw [hs] at hj'
       have hk := gs k hs
       simp only [Option.getD_some] at hj' ⊢
       have h1 : 0 ≤ k * (j : Int) := Int.mul_nonneg (by omega) (by omega)
       have h2 : (j : Int) ≤ (goal - a.tick) / k := by omega
       have h3 : k * (j : Int) ≤ k * ((goal - a.tick) / k) := Int.mul_le_mul_of_nonneg_left h2 (by omega)
       have h4 := Int.mul_ediv_self_le (x := goal - a.tick) (k := k) (by omega)
       omega
   · rw [if_neg hd] at hj'
     omega
theorem Runs.lex {goal : Int} {N : Nat} {f g : Fn ν} {l : List (Int × Int × ν)} (x : Runs goal f l g) (gd : GoodF N f) : l.Pairwise Lex := by
 induction x with
 | stop _ => exact List.Pairwise.nil
 | @ring f g n a l nx r ih =>
   have gd' := gd.ring nx.there
   refine List.Pairwise.cons (fun y hy => ?_) (ih gd')
   obtain ⟨_, b, h1, _, h2, _⟩ := mem_all gd' ((r.all gd').mem_iff.mp hy)
   by_cases e : y.2.1 = n
   · rw [e, ZF] at h1
     unfold after at h1
     cases hs : a.step with
     | none => rw [hs] at h1; cases h1
     | some k =>
       rw [hs] at h1
       cases h1
       have := (gd n a nx.there).2 k hs
       left
       show a.tick < y.1
       simp only at h2
       omega
   · rw [ZW _ _ e] at h1
     have := nx.first _ _ h1
     unfold Ahead at this
     show a.tick < y.1 ∨ (a.tick = y.1 ∧ n < y.2.1)
     omega
theorem Runs.add {goal : Int} {f g : Fn ν} {l : List (Int × Int × ν)} (x : Runs goal f l g) {n : Int} {b : Al ν} (hn : f n = none) (hb : goal < b.tick) : Runs goal (fput f n (some b)) l (fput g n (some b)) := by
 induction x with
 | stop h =>
   refine .stop fun m a e => ?_
   by_cases hm : m = n
   · rw [hm, ZF] at e
     cases e
     exact hb
   · rw [ZW _ _ hm] at e
     exact h m a e
 | @ring f g k a l nx r ih =>
   have hk : k ≠ n := fun z => by rw [z] at nx; rw [nx.there] at hn; cases hn
   have ih' := ih (by rw [ZW _ _ (Ne.symm hk)]; exact hn)
   have ec : fput (fput f k (after a)) n (some b) = fput (fput f n (some b)) k (after a) := by
     funext m
     unfold fput
     by_cases h1 : m = n
     · have : ¬ m = k := fun z => hk (z.symm.trans h1)
       simp [h1, Ne.symm hk]
     · simp [h1]
   rw [ec] at ih'
   refine .ring ⟨by rw [ZW _ _ hk]; exact nx.there, nx.due, fun m c e => ?_⟩ ih'
   by_cases hm : m = n
   · rw [hm, ZF] at e
     cases e
     left
     have := nx.due
     omega
   · rw [ZW _ _ hm] at e
     exact nx.first m c e
theorem Runs.len {goal : Int} {N : Nat} {f g : Fn ν} {l : List (Int × Int × ν)} (x : Runs goal f l g) (gd : GoodF N f) : l.length = muF goal N f := by
 induction x with
 | @stop f h =>
   unfold muF
   have : ∀ n : Nat, ((List.range n).map fun (i : Nat) => cntO goal (f (i : Int))).sum = 0 := fun n => by
     induction n with
     | zero => rfl
     | succ n ih =>
       rw [List.range_succ, List.map_append, List.sum_append, ih]
       simp only [List.map_cons, List.map_nil, List.sum_cons, List.sum_nil]
       cases e : f n with
       | none => rfl
       | some a =>
         unfold cntO cnt
         dsimp only
         rw [if_neg (by have := h _ a e; omega)]
         rfl
   rw [this]
   rfl
 | ring nx r ih =>
   have := muF_ring gd nx
   rw [List.length_cons, ih (gd.ring nx.there)]
   exact this
theorem lex_eq {l m : List (Int × Int × ν)} (p : l.Perm m) (h1 : m.Pairwise Lex) (h2 : l.Pairwise fun x y => ¬ Lex y x) : l = m := by
 refine List.Perm.eq_of_pairwise (le := fun x y => ¬ Lex y x) (fun a b ha hb n1 n2 => ?_) h2 (h1.imp fun {x y} h z => ?_) p
 · have ha' := p.mem_iff.mp ha
   obtain ⟨i, hi, rfl⟩ := List.mem_iff_getElem.mp ha'
   obtain ⟨j, hj, rfl⟩ := List.mem_iff_getElem.mp hb
   rcases Nat.lt_trichotomy i j with h | h | h
   · exact absurd (List.pairwise_iff_getElem.mp h1 i j hi hj h) n2
   · subst h; rfl
   · exact absurd (List.pairwise_iff_getElem.mp h1 j i hj hi h) n1
 · unfold Lex at h z
   omega
end
end Mir
end
section
namespace L2
open PySem PySem.Spec PyProof.Rows
theorem comp_range {lo : Int} {n : Nat} {fv : List (Option Nat)} {jx : Nat} {te : TE} {σ : St} {H : Hp} {Q : VK} (Pv : Nat → List V → Hp → Prop) (h0 : Pv 0 [] H) (hl : ∀ i ys H, i ≤ n → Pv i ys H → ys.length < sizeLine)
   (hs : ∀ i ys H (Q' : VK), i < n → Pv i ys H → (∀ y H3, Pv (i + 1) (ys ++ [y]) H3 → Q' y H3) → te ((blk fv σ).set jx (some (.int (lo + i)))) H Q')
   (hd : ∀ ys H, Pv n ys H → ∀ acc, H acc = none → Q (.ref acc) (upd H acc (.lst ys))) : Vf (Itr lo n) fv jx (fun _ H Q => Q true H) te σ H Q := by
 refine ⟨fun i m ys H => m = n - i ∧ i ≤ n ∧ Pv i ys H, ⟨n, by simp, Nat.zero_le _, h0⟩, ?_⟩
 rintro i m ys H ⟨rfl, hi, p⟩
 refine ⟨hl i ys H hi p, ?_⟩
 by_cases hlt : i < n
 · refine .inr ⟨hlt, fun x H' y => ?_⟩
   obtain ⟨e, y⟩ := y
   subst e y
   exact iteT (hs i ys _ _ hlt p fun y H3 p3 => ⟨n - (i + 1), by omega, rfl, hlt, p3⟩)
 · have e : i = n := by omega
   subst e
   exact .inl ⟨Nat.le_refl _, hd ys H p⟩
end L2
namespace Tk
open PySem L2 Mir Rk Tb
open PyProof.Rows (boot_sorted boot_min boot_enumerate boot_isinstance boot_sum boot_max)
def AlsAt (H : Hp) (l : Addr) (as : List (Int × Option Int)) : Prop := ∃ qs : List (Addr × Int × Option Int), qs.map (·.2) = as ∧ H l = some (.lst (qs.map fun q => V.ref q.1)) ∧ ∀ q ∈ qs, H q.1 = some (.tup [.int q.2.1, Yi q.2.2])
def fnA (as : List (Int × Option Int)) : Fn Str := fun n => if 0 ≤ n then (as[n.toNat]?).map fun p => ⟨"x", p.1, p.2⟩ else none
theorem Ua {as : List (Int × Option Int)} (i : Nat) : fnA as (i : Int) = (as[i]?).map fun p => ⟨"x", p.1, p.2⟩ := by
 unfold fnA
 rw [if_pos (by omega), Int.toNat_natCast]
theorem VI {as : List (Int × Option Int)} {n : Int} {a : Al Str} (h : fnA as n = some a) : ∃ i : Nat, n = i ∧ i < as.length ∧ as[i]? = some (a.tick, a.step) ∧ a.name = "x" := by
 unfold fnA at h
 by_cases h0 : 0 ≤ n
 · rw [if_pos h0] at h
   cases e : as[n.toNat]? with
   | none => rw [e] at h; cases h
   | some p =>
     rw [e] at h
     cases h
     exact ⟨n.toNat, by omega, (List.getElem?_eq_some_iff.mp e).1, e, rfl⟩
 · rw [if_neg h0] at h
   cases h
theorem AlsAt.up {H H' : Hp} {l : Addr} {as : List (Int × Option Int)} (r : AlsAt H l as) (s : Same H H') : AlsAt H' l as := by
 obtain ⟨qs, e, h, t⟩ := r
 exact ⟨qs, e, s _ _ h, fun q hq => s _ _ (t q hq)⟩
theorem AlsAt.at {H : Hp} {l : Addr} {as : List (Int × Option Int)} (r : AlsAt H l as) {i : Nat} {p : Int × Option Int} (h : as[i]? = some p) : ∃ xs y, H l = some (.lst xs) ∧ xs.length = as.length ∧ xs[i]? = some (.ref y) ∧ H y = some (.tup [.int p.1, Yi p.2]) := by
 obtain ⟨qs, e, hl, t⟩ := r
 rw [← e, List.getElem?_map] at h
 obtain ⟨q, hq, rfl⟩ := Option.map_eq_some_iff.mp h
 refine ⟨_, q.1, hl, by rw [← e]; simp, by rw [List.getElem?_map, hq]; rfl, t q (List.mem_of_getElem? hq)⟩
theorem RingsAt.plus {H : Hp} {l b : Addr} {rs rs2 : List (Int × Int × Str)} (r : RingsAt H l rs) (r2 : RingsAt H b rs2) : ∃ xs zs, H l = some (.lst xs) ∧ H b = some (.lst zs) ∧ xs.length = rs.length ∧ zs.length = rs2.length ∧ ∀ p, H p = none → RingsAt (upd H p (.lst (xs ++ zs))) p (rs ++ rs2) := by
 obtain ⟨qs, e, hl, t⟩ := r
 obtain ⟨qs2, e2, hl2, t2⟩ := r2
 refine ⟨_, _, hl, hl2, by rw [← e]; simp, by rw [← e2]; simp, fun p hp => ⟨qs ++ qs2, by rw [List.map_append, e, e2], by rw [Zb, List.map_append], fun q hq => ?_⟩⟩
 have tq : H q.1 = some (.tup (Vh q.2)) := by
   rcases List.mem_append.mp hq with hq | hq
   · exact t q hq
   · exact t2 q hq
 rw [Zc fun z => by rw [z, hp] at tq; cases tq]
 exact tq
theorem Ve {goal : Int} {f : Fn Str} (i : Nat) : allR goal (i + 1) f = allR goal i f ++ one goal i (f i) := by
 unfold allR
 rw [List.range_succ, List.flatMap_append]
 simp
theorem allR_le {goal : Int} {f : Fn Str} {i N : Nat} (h : i ≤ N) : (allR goal i f).length ≤ (allR goal N f).length := by
 induction N with
 | zero => rw [show i = 0 by omega]; exact Nat.le_refl _
 | succ N ih =>
   by_cases e : i = N + 1
   · rw [e]; exact Nat.le_refl _
   · rw [Ve, List.length_append]
     have := ih (by omega)
     omega
theorem atI_nat {α : Type} {xs : List α} {i : Nat} {x : α} (h : xs[i]? = some x) : atI xs (i : Int) = some x := by
 have hi := (List.getElem?_eq_some_iff.mp h).1
 unfold atI ixN
 rw [if_pos (by omega), if_pos (by omega)]
 simpa using h
section
variable {P : Program} {w : World} {K : W.Frag} {mg : Str → Option Value} {base : Heap} {a : Ad}
def Sg : Sp := fun vs H Q _ => ∃ i : Int, vs = [.int i] ∧ Q (.bl true) H
theorem Ts : FnScope ["_law_found"] ["_law_found"] (Ze Yu) := Zr
theorem Tx (T : Txt K mg a) : FnOk P w K mg base (CXe P w) 1 a.f__law_whole a.fd__law_whole ["_law_found"] Sg := by
 refine T.F__law_whole.okN Ts (fun vs H Q E h => ?_) (fun cdv A' outer s H vs Q E hr h => ?_)
 · obtain ⟨i, rfl, _⟩ := h
   rfl
 · obtain ⟨i, rfl, kk⟩ := h
   refine ⟨_, (Zi (ZA (pe_and (Yd call_isi rfl T.b_isinstance boot_isinstance (Za (pv 0) (Za (pe_bty T.b_int PyProof.Rows.boot_int) Zf))) (pe_one (pe_not (Yd call_isi rfl T.b_isinstance boot_isinstance (Za (pv 0) (Za (pe_bty T.b_bool PyProof.Rows.boot_bool) Zf)))))))), ?_⟩
   refine ⟨_, rfl, _, _, _, _, _, rfl, .int i, rfl, XL, _, rfl, iteT ?_⟩
   exact ⟨_, rfl, _, _, _, _, _, rfl, .int i, rfl, T.ty_int_bool, _, rfl, kk⟩
def spLDue : Sp := fun vs H Q _ => ∃ (l : Addr) (goal : Int) (as : List (Int × Option Int)) (told : List (Int × Int × Str)) (g : Fn Str), vs = [.ref l, .int goal] ∧ AlsAt H l as ∧ as.length ≤ 8 ∧ (∀ p ∈ as, ∀ s, p.2 = some s → 0 < s ∧ s < 100) ∧ Runs goal (fnA as) told g ∧ told.length ≤ 1000000 ∧
 ∀ (H' : Hp) (lr : Addr), Same H H' → RingsAt H' lr told → Q (.ref lr) H'
theorem sc__law_due : FnScope ["_law_alarms", "_law_goal", "_law_found", "_law_number", "_law_due_here", "_law_step"] ["_law_alarms", "_law_goal"] (Ze YK) := Zr
theorem Th {as : List (Int × Option Int)} (h : ∀ p ∈ as, ∀ s, p.2 = some s → 0 < s ∧ s < 100) : GoodF as.length (fnA as) := fun n a e => by
 obtain ⟨i, e1, h1, h2, _⟩ := VI e
 exact ⟨by omega, fun k hk => (h _ (List.mem_of_getElem? h2) k hk).1⟩
theorem due_sorted {H : Hp} {lf : Addr} {goal : Int} {as : List (Int × Option Int)} {told : List (Int × Int × Str)} {g : Fn Str} {Q : VK} (hl : as.length ≤ 8) (hs : ∀ p ∈ as, ∀ s, p.2 = some s → 0 < s ∧ s < 100) (r : Runs goal (fnA as) told g)
   (hf : RingsAt H lf (allR goal as.length (fnA as))) (kk : ∀ (H' : Hp) (lr : Addr), Same H H' → RingsAt H' lr told → Q (.ref lr) H') : So.rSortedT K [.ref lf] H Q := by
 have gd := Th hs
 have pm := r.all gd
 have lx := r.lex gd
 obtain ⟨qs, e, h, t⟩ := hf
 have no : ∀ x ∈ allR goal as.length (fnA as), 0 ≤ x.2.1 ∧ x.2.1 < 64 := fun x hx => by
   have := (mem_all gd hx).1
   omega
 let f : Addr × Int × Int × Str → So.Tr := fun q => ⟨q.1, q.2.1, q.2.2.1, q.2.2.2⟩
 have hnd : ((qs.map f).map So.trk).Nodup := by
   have e1 : (qs.map f).map So.trk = (qs.map (·.2)).map fun (x : Int × Int × Str) => x.1 * 64 + x.2.1 := by
     rw [List.map_map, List.map_map]
     rfl
   rw [e1, e, (pm.symm.map _).nodup_iff]
   refine List.pairwise_map.mpr (lx.imp_of_mem fun {x y} hx hy hxy => ?_)
   have n1 := no x (pm.mem_iff.mp hx)
   have n2 := no y (pm.mem_iff.mp hy)
   unfold Lex at hxy
   omega
 refine ⟨lf, qs.map f, rfl, ?_, fun q hq => ?_, fun q hq => ?_, hnd, fun rs' p1 p2 p hp => ?_⟩
 · rw [List.map_map]
   exact SqL.of h
 · obtain ⟨q0, hq0, rfl⟩ := List.mem_map.mp hq
   exact SqT.of (t q0 hq0)
 · obtain ⟨q0, hq0, rfl⟩ := List.mem_map.mp hq
   exact no q0.2 (by rw [← e]; exact List.mem_map.mpr ⟨q0, hq0, rfl⟩)
 · let b : So.Tr → Addr × Int × Int × Str := fun x => (x.ad, x.tk, x.no, x.nm)
   have pq : (rs'.map b).Perm qs := by
     have := p1.map b
     rw [List.map_map] at this
     have e2 : (b ∘ f) = id := rfl
     rw [e2, List.map_id] at this
     exact this
   have et : (rs'.map b).map (·.2) = told := by
     refine lex_eq (((pq.map (·.2)).trans (List.Perm.of_eq e)).trans pm.symm) lx ?_
     refine List.pairwise_map.mpr (List.pairwise_map.mpr (p2.imp_of_mem fun {x y} hx hy hxy z => ?_))
     have n1 := no (b x).2 (by rw [← e]; exact List.mem_map.mpr ⟨_, pq.mem_iff.mp (List.mem_map.mpr ⟨x, hx, rfl⟩), rfl⟩)
     have n2 := no (b y).2 (by rw [← e]; exact List.mem_map.mpr ⟨_, pq.mem_iff.mp (List.mem_map.mpr ⟨y, hy, rfl⟩), rfl⟩)
     have z' : y.tk < x.tk ∨ (y.tk = x.tk ∧ y.no < x.no) := z
     have n1' : 0 ≤ x.no ∧ x.no < 64 := n1
     have n2' : 0 ≤ y.no ∧ y.no < 64 := n2
     unfold So.trk at hxy
     omega
   refine kk _ p (Same.upd hp) ⟨rs'.map b, et, by rw [Zb, List.map_map]; rfl, fun q hq => ?_⟩
   have tq := t q (pq.mem_iff.mp hq)
   rw [Zc fun z => by rw [z, hp] at tq; cases tq]
   exact tq
theorem big1m {n : Nat} (h : n ≤ 1000000) : n < sizeLine := Nat.lt_of_le_of_lt h (by decide)
theorem one_none {goal n d : Int} {nm : Str} : one goal n (some ⟨nm, d, none⟩) = if d ≤ goal then [(d, n, nm)] else [] := by
 unfold one UC cnt
 by_cases h : d ≤ goal <;> simp [h]
theorem cnt_some {goal d sp : Int} {nm : Str} (h : 0 < sp) : cnt goal (⟨nm, d, some sp⟩ : Al Str) = (if (goal - d) / sp + 1 > 0 then (goal - d) / sp + 1 else 0).toNat := by
 unfold cnt
 dsimp only
 by_cases hd : d ≤ goal
 · have := Int.ediv_nonneg (a := goal - d) (b := sp) (by omega) (by omega)
   rw [if_pos hd, if_pos (by omega)]
 · have := Int.ediv_lt_of_lt_mul (a := goal - d) (b := 0) h (by omega)
   rw [if_neg hd, if_neg (by omega)]
   rfl
abbrev teDue : TE := tTup (UE (tOp (rI0 fun i j => .int (i + j)) (tVar 1) (tOp (rI CMul fun i j => .int (i * j)) (tVar 2) (tVar 0))) (UE (tVar 3) (UE (tC (.str "x")) tNil)))
set_option maxHeartbeats 1000000 in
theorem ok__law_due (T : Txt K mg a) : FnOk P w K mg base (CXe P w) 1 a.f__law_due a.fd__law_due ["_law_alarms", "_law_goal"] spLDue := by
 refine T.F__law_due.okN sc__law_due (fun vs H Q E h => ?_) (fun cdv A' outer s H vs Q E hr h => ?_)
 · obtain ⟨l, goal, as, told, g, rfl, _⟩ := h
   rfl
 · obtain ⟨l, goal, as, told, g, rfl, ha, h8, hst, rn, hlen, kk⟩ := h
   have gd := Th hst
   have tot : (allR goal as.length (fnA as)).length ≤ 1000000 := by rw [← (rn.all gd).length_eq]; exact hlen
   refine ⟨_, YZ, ?_⟩
   refine Zz (Zs (i := 2) sc__law_due.nd rfl (Or.inl rfl) (YX Zf)) ?_
   refine ⟨by decide, fun lf hlf => ?_⟩
   refine Zz (XE PassesOwn.never rfl (XZ rfl T.b_range (Za (Yd Yg (by rfl) T.b_len boot_len (Za (pv 0) Zf)) Zf)) (Ym (i := 3) sc__law_due.nd rfl (Or.inr rfl)) YZ) ?_
   have ha1 := ha.up (Same.upd (o := .lst []) hlf)
   obtain ⟨qs, eq, hl, ht⟩ := id ha1
   have lq : qs.length = as.length := by rw [← eq, List.length_map]
   refine ⟨_, rfl, l, _, rfl, .inl (SqL.of hl), _, rfl, by rw [List.length_map]; omega, by rw [List.length_map]; omega, ?_⟩
   rw [List.length_map, Int.toNat_natCast, lq]
   refine Vc (lo := 0) (n := as.length) (fun i σ Hi => ∃ lf x3 x4 x5, σ = [some (.ref l), some (.int goal), some (.ref lf), x3, x4, x5] ∧ Same H Hi ∧ RingsAt Hi lf (allR goal i (fnA as))) ⟨lf, none, none, none, rfl, Same.upd hlf, [], rfl, Zb, fun _ h => by cases h⟩ ?_ ?_
   · rintro i σ Hi hi ⟨lf, x3, x4, x5, rfl, sH, rf⟩
     obtain ⟨⟨d, sp⟩, hp'⟩ : ∃ p, as[i]? = some p := ⟨_, List.getElem?_eq_getElem hi⟩
     have hai := ha.up sH
     obtain ⟨xs, y, hx1, hx2, hx3, hx4⟩ := hai.at hp'
     have tot1 : (allR goal (i + 1) (fnA as)).length ≤ 1000000 := Nat.le_trans (allR_le (by omega)) tot
     rw [Ve, List.length_append, Ua, hp'] at tot1
     have hat : atI xs (0 + (i : Int)) = some (.ref y) := by rw [Int.zero_add]; exact atI_nat hx3
     refine Zz (ps_asg (YT Yw (pv 0) (pv 3) (fun _ _ => rfl)) (Su rfl (YS (Ym (i := 4) sc__law_due.nd rfl (Or.inr rfl)) (YS (Ym (i := 5) sc__law_due.nd rfl (Or.inr rfl)) Ur)))) ?_
     refine ⟨_, rfl, _, rfl, _, _, _, _, rfl, rfl, SqL.of hx1, hat, _, _, rfl, SqT.of hx4, rfl, _, _, rfl, _, _, rfl, rfl, ?_⟩
     refine Xy (YC (Zy Sw (pv 5) YM (ZG _)) (Zi (Zs (i := 2) sc__law_due.nd rfl (Or.inl rfl) (Zm UW (pv 2) (Zm op_rep (YX (Za (Vn (Za (pv 4) (Za (pv 3) (Za Yc Zf)))) Zf)) (VS call_int1 rfl T.b_int PyProof.Rows.boot_int (Za (pe_cmpR op_le (pv 4) (pv 1) (ZG _)) Zf))))))
       (Zi (Zs (i := 2) sc__law_due.nd rfl (Or.inl rfl) (Zm UW (pv 2) (VA (te := teDue) (NB := ["_law_k", "_law_due_here", "_law_step", "_law_number"]) (fv := [none, some 4, some 5, some 3]) (jx := 0) rfl (Uc rfl rfl (by decide +kernel))
         (XZ rfl T.b_range (Za (Yd (call_max2 rfl) (by rfl) T.b_max boot_max (Za Zj (Za (Zm Ye (Zm ZO (Zm VT (pv 1) (pv 4)) (pv 5)) Zj) Zf))) Zf)) rfl rfl rfl (fun _ _ _ => UR) (fun _ _ _ => Vn (Za (Zm Ye (pv 1) (Zm YY (pv 2) (pv 0))) (Za (pv 3) (Za Yc Zf))))))))) ?_
     cases sp with
     | none =>
       refine ⟨_, rfl, rfl, _, rfl, iteT ?_⟩
       refine ⟨_, rfl, _, rfl, _, rfl, (by show 3 ≤ sizeLine; decide), fun p hp => ⟨(by show 1 ≤ sizeLine; decide), fun q hq => ?_⟩⟩
       refine ⟨_, rfl, _, rfl, _, _, rfl, rfl, .inr ⟨_, rfl, ?_⟩⟩
       have npq : p ≠ q := fun z => by rw [← z, Zb] at hq; cases hq
       have s2 : Same Hi (upd (upd Hi p (HO.tup [V.int d, V.int (0 + (i : Int)), V.str (Str.ofString "x")])) q (HO.lst [V.ref p])) := (Same.upd hp).trans (Same.upd hq)
       have fin : ∀ (H3 : Hp) (r : Addr), Same Hi H3 → RingsAt H3 r (one goal i (fnA as i)) → rCat (V.ref lf) (.ref r) H3 fun x H1 => gName 2 x ((([some (V.ref l), some (V.int goal), some (V.ref lf), x3, x4, x5].set 3 (some (V.int (0 + (i : Int))))).set 4 (some (V.int d))).set 5 (some V.non)) H1
           fun σ Hi => ∃ lf x3 x4 x5, σ = [some (V.ref l), some (V.int goal), some (V.ref lf), x3, x4, x5] ∧ Same H Hi ∧ RingsAt Hi lf (allR goal (i + 1) (fnA as)) := fun H3 r s3 r3 => by
         obtain ⟨xs, zs, e1, e2, e3, e4, e5⟩ := (rf.same s3).plus r3
         refine ⟨lf, r, xs, zs, rfl, rfl, e1, e2, Nat.le_of_lt (big1m (by rw [e3, e4, Ua, hp']; exact tot1)), fun y hy => ⟨y, _, _, _, rfl, (sH.trans s3).trans (Same.upd hy), ?_⟩⟩
         rw [Ve]
         exact e5 y hy
       rw [Ua, hp'] at fin
       replace fin : ∀ (H3 : Hp) (r : Addr), Same Hi H3 → RingsAt H3 r (one goal i (some ⟨"x", d, none⟩)) → _ := fin
       rw [one_none] at fin
       by_cases hd : d ≤ goal
       · rw [if_pos hd] at fin
         refine ⟨q, 1, [.ref p], rfl, (by rw [decide_eq_true hd]; rfl), Zb, (by decide), (by decide), (by show _ ≤ sizeLine; simp <;> decide), fun r hr => ?_⟩
         have npr : p ≠ r := fun z => by rw [← z, Zc npq, Zb] at hr; cases hr
         refine fin _ r (s2.trans (Same.upd hr)) ⟨[(p, d, (i : Int), ("x" : Str))], rfl, Zb, fun y hy => ?_⟩
         have ey : y = (p, d, (i : Int), ("x" : Str)) := by simpa using hy
         subst ey
         rw [Zc npr, Zc npq, Zb, Int.zero_add]
         rfl
       · rw [if_neg hd] at fin
         refine ⟨q, 0, [.ref p], rfl, (by rw [decide_eq_false hd]; rfl), Zb, (by decide), (by decide), (by show _ ≤ sizeLine; simp <;> decide), fun r hr => ?_⟩
         exact fin _ r (s2.trans (Same.upd hr)) ⟨[], rfl, Zb, fun y hy => by cases hy⟩
     | some sp =>
       refine ⟨_, rfl, rfl, _, rfl, iteF ?_⟩
       have hs := hst _ (List.mem_of_getElem? hp') sp rfl
       refine ⟨_, rfl, _, rfl, _, rfl, _, _, rfl, rfl, _, rfl, _, _, rfl, rfl, ⟨hs.1, Int.lt_trans hs.2 (by decide)⟩, _, _, rfl, rfl, _, _, rfl, _, rfl, ?_⟩
       have ec := cnt_some (goal := goal) (d := d) (nm := "x") hs.1
       have e1 : (one goal i (some (⟨"x", d, some sp⟩ : Al Str))).length = cnt goal (⟨"x", d, some sp⟩ : Al Str) := by unfold one UC; simp
       replace tot1 : (allR goal i (fnA as)).length + (one goal i (some (⟨"x", d, some sp⟩ : Al Str))).length ≤ 1000000 := tot1
       refine ⟨by show -2 ^ 62 ≤ (if (goal - d) / sp + 1 > 0 then (goal - d) / sp + 1 else 0); split <;> omega, by show (if (goal - d) / sp + 1 > 0 then (goal - d) / sp + 1 else 0) < 2 ^ 62; omega, ?_⟩
       show Vf (Itr 0 (if (goal - d) / sp + 1 > 0 then (goal - d) / sp + 1 else 0).toNat) _ _ _ _ _ _ _
       rw [← ec]
       refine comp_range (fun k ys Hk => ∃ qs : List (Addr × Int × Int × Str), qs.map (·.2) = (List.range k).map (fun (j : Nat) => (d + sp * (j : Int), (i : Int), ("x" : Str))) ∧ ys = qs.map (fun q => V.ref q.1) ∧ Same Hi Hk ∧ ∀ q ∈ qs, Hk q.1 = some (.tup (Vh q.2))) ⟨[], rfl, rfl, fun _ _ h => h, fun _ h => by cases h⟩ ?_ ?_ ?_
       · rintro k ys Hk hk ⟨qs, q1, rfl, q3, q4⟩
         have := congrArg List.length q1
         rw [List.length_map, List.length_map, List.length_range] at this
         rw [List.length_map]
         exact big1m (by omega)
       · rintro k ys Hk Q' hk ⟨qs, q1, rfl, q3, q4⟩ kq
         refine ⟨_, rfl, _, rfl, _, rfl, _, _, rfl, rfl, .inl ⟨by omega, by omega⟩, _, _, rfl, rfl, _, rfl, (by show 3 ≤ sizeLine; decide), fun p hp => ?_⟩
         refine kq _ _ ⟨qs ++ [(p, d + sp * (k : Int), (i : Int), ("x" : Str))], ?_, by simp, q3.trans (Same.upd hp), fun y hy => ?_⟩
         · rw [List.map_append, q1, List.range_succ, List.map_append]
           rfl
         · rcases List.mem_append.mp hy with hy | hy
           · have := q4 y hy
             rw [Zc fun z => by rw [z, hp] at this; cases this]
             exact this
           · have ey : y = (p, d + sp * (k : Int), (i : Int), ("x" : Str)) := by simpa using hy
             subst ey
             rw [Zb, Int.zero_add, Int.zero_add]
             rfl
       · rintro ys Hk ⟨qs, q1, rfl, q3, q4⟩ r hr
         have r3 : RingsAt (upd Hk r (.lst (qs.map fun q => V.ref q.1))) r (one goal i (fnA as i)) := by
           refine ⟨qs, ?_, Zb, fun y hy => ?_⟩
           · rw [Ua, hp', q1]
             show _ = (UC goal (⟨"x", d, some sp⟩ : Al Str)).map _
             unfold UC
             rw [List.map_map]
             rfl
           · have := q4 y hy
             rw [Zc fun z => by rw [z, hr] at this; cases this]
             exact this
         have s3 := q3.trans (Same.upd (o := .lst (qs.map fun q => V.ref q.1)) hr)
         obtain ⟨xs, zs, e1, e2, e3, e4, e5⟩ := (rf.same s3).plus r3
         refine ⟨lf, r, xs, zs, rfl, rfl, e1, e2, Nat.le_of_lt (big1m (by rw [e3, e4, Ua, hp']; exact tot1)), fun y hy => ⟨y, _, _, _, rfl, (sH.trans s3).trans (Same.upd hy), ?_⟩⟩
         rw [Ve]
         exact e5 y hy
   · rintro σ Hi ⟨lf, x3, x4, x5, rfl, sH, rf⟩
     refine Xy (ZA (Yd So.call_sortedT (by rfl) T.b_sorted boot_sorted (Za (pv 2) Zf))) ?_
     exact ⟨_, rfl, due_sorted h8 hst rn rf fun H' lr s' r' => kk H' lr (sH.trans s') r'⟩
end
end Tk
end
section
namespace Tk
open PySem L2 Mir Rk Tb
open PyProof.Rows (boot_sorted boot_min boot_enumerate boot_isinstance boot_sum boot_max)
variable {P : Program} {w : World} {K : W.Frag} {mg : Str → Option Value} {base : Heap} {a : Ad}
theorem fnA_snoc {as : List (Int × Option Int)} {d : Int} {sp : Option Int} : fput (fnA as) as.length (some ⟨"x", d, sp⟩) = fnA (as ++ [(d, sp)]) := by
 funext m
 unfold fput fnA
 by_cases e : m = as.length
 · subst e
   rw [if_pos rfl, if_pos (by omega), Int.toNat_natCast, List.getElem?_append_right (Nat.le_refl _), Nat.sub_self]
   rfl
 · rw [if_neg e]
   by_cases h0 : 0 ≤ m
   · rw [if_pos h0, if_pos h0]
     by_cases hl : m.toNat < as.length
     · rw [List.getElem?_append_left hl]
     · rw [List.getElem?_eq_none (by omega), List.getElem?_eq_none (by simp; omega)]
   · rw [if_neg h0, if_neg h0]
theorem fnA_new {as : List (Int × Option Int)} : fnA as (as.length : Int) = none := by
 rw [Ua, List.getElem?_eq_none (Nat.le_refl _)]
 rfl
theorem AlsAt.snoc {H : Hp} {l p : Addr} {as : List (Int × Option Int)} {d : Int} {sp : Option Int} (r : AlsAt H l as) (hp : H p = none) : ∃ xs, H l = some (.lst xs) ∧ xs.length = as.length ∧ AlsAt (upd (upd H p (.tup [.int d, Yi sp])) l (.lst (xs ++ [.ref p]))) l (as ++ [(d, sp)]) := by
 obtain ⟨qs, e, h, t⟩ := r
 have npl : p ≠ l := fun z => by rw [z, h] at hp; cases hp
 refine ⟨_, h, by rw [← e]; simp, qs ++ [(p, d, sp)], by rw [List.map_append, e]; rfl, by rw [Zb]; simp, fun q hq => ?_⟩
 rcases List.mem_append.mp hq with hq | hq
 · have tq := t q hq
   have n1 : q.1 ≠ l := fun z => by rw [z, h] at tq; cases tq
   have n2 : q.1 ≠ p := fun z => by rw [z, hp] at tq; cases tq
   rw [Zc n1, Zc n2]
   exact tq
 · have e : q = (p, d, sp) := by simpa using hq
   subst e
   rw [Zc npl, Zb]
theorem WAt.list {H : Hp} {q dw dr l : Addr} {tw tr : TabA} {v : Vw} {xs ys : List V} (w : WAt H q dw dr tw tr v) (h : H l = some (.lst xs)) : WAt (upd H l (.lst ys)) q dw dr tw tr v := by
 have out : ∀ {y : Addr} {u : HO}, H y = some u → (∀ xs, u ≠ .lst xs) → upd H l (.lst ys) y = some u := fun {y u} hy hn => by
   rw [Zc (fun z => by rw [z, h] at hy; cases hy; exact hn _ rfl)]
   exact hy
 exact ⟨out w.top (fun _ z => by cases z), out w.wts (fun _ z => by cases z), out w.rts (fun _ z => by cases z), fun p hp => out (w.aw p hp) (fun _ z => by cases z), fun p hp => out (w.ar p hp) (fun _ z => by cases z), w.n1, w.n2, w.n3, w.ndw, w.ndr, w.ew, w.er⟩
theorem RingsAt.off {H : Hp} {l x : Addr} {o u : HO} {rs : List (Int × Int × Str)} (r : RingsAt H l rs) (h : H x = some u) (hl : l ≠ x) (ht : ∀ ys, u ≠ .tup ys) : RingsAt (upd H x o) l rs := by
 obtain ⟨qs, e, h1, t⟩ := r
 refine ⟨qs, e, by rw [Zc hl]; exact h1, fun q hq => ?_⟩
 have tq := t q hq
 rw [Zc fun z => by rw [z, h] at tq; cases tq; exact ht _ rfl]
 exact tq
theorem AlsAt.off {H : Hp} {l x : Addr} {o u : HO} {as : List (Int × Option Int)} (r : AlsAt H l as) (h : H x = some u) (hl : l ≠ x) (ht : ∀ ys, u ≠ .tup ys) : AlsAt (upd H x o) l as := by
 obtain ⟨qs, e, h1, t⟩ := r
 refine ⟨qs, e, by rw [Zc hl]; exact h1, fun q hq => ?_⟩
 have tq := t q hq
 rw [Zc fun z => by rw [z, h] at tq; cases tq; exact ht _ rfl]
 exact tq
structure Lp (c : Cl) (H : Hp) (x q dw dr la : Addr) (S : Int) (n i : Nat) (H0 Hi : Hp) (v : Vw) (as : List (Int × Option Int)) (told : List (Int × Int × Str)) (lt : Addr) : Prop where
 sH : Same H H0
 hq : H q = none
 hla : H la = none
 ne : lt ≠ la
 bk : BookAt c H0 Hi x v
 wd : WAt H0 q dw dr [] [] ⟨S, n, v.now, 0, fun _ => none, fun _ => none⟩
 al : AlsAt H0 la as
 tl : RingsAt H0 lt told
 lo : LOk i v
 eS : v.S = S
 nx : v.next = as.length
 l8 : as.length ≤ 8
 rn : Runs v.now (fnA as) told v.wait
 st : ∀ p ∈ as, ∀ s, p.2 = some s → 0 < s ∧ s < 100
 du : ∀ p ∈ as, 0 < p.1 ∧ p.1 ≤ 200000000000000
 late : ∀ p ∈ as, ∀ s, p.2 = some s → v.now ≤ p.1 + 8 * i
section
variable {c : Cl} {H : Hp} {x q dw dr la : Addr} {S : Int} {n i : Nat} {H0 Hi : Hp} {v : Vw} {as : List (Int × Option Int)} {told : List (Int × Int × Str)} {lt : Addr}
theorem Lp.fr (L : Lp c H x q dw dr la S n i H0 Hi v as told lt) {H0' H' : Hp} (f : Fr [] H0 Hi H0' H') : Lp c H x q dw dr la S n i H0' H' v as told lt :=
 ⟨L.sH.trans f.grow, L.hq, L.hla, L.ne, L.bk.fr f, L.wd.up f.grow, L.al.up f.grow, L.tl.same f.grow, L.lo, L.eS, L.nx, L.l8, L.rn, L.st, L.du, L.late⟩
theorem Lp.up (L : Lp c H x q dw dr la S n i H0 Hi v as told lt) {p : Addr} {o : HO} (hp : Hi p = none) : Lp c H x q dw dr la S n i (upd H0 p o) (upd Hi p o) v as told lt := L.fr (Fr.new L.bk.same hp)
theorem Lp.law (L : Lp c H x q dw dr la S n i H0 Hi v as told lt) : LOk i ⟨S, n, v.now, 0, fun _ => none, fun _ => none⟩ :=
 ⟨L.lo.j24, by have := L.lo.sl; rw [L.eS] at this; exact this, L.lo.now, ⟨Int.le_refl _, by show (0 : Int) ≤ i; omega⟩, (fun k a e => by cases e), (fun k a e => by cases e)⟩
theorem Lp.few (L : Lp c H x q dw dr la S n i H0 Hi v as told lt) (hi : i ≤ 13) : muF v.now 63 (fnA as) ≤ 1000000 ∧ told.length ≤ 1000000 ∧ ∀ k a, fnA as k = some a → cnt v.now a ≤ 105 := by
 have h : ∀ k a, fnA as k = some a → cnt v.now a ≤ 105 := fun k a e => by
   obtain ⟨j, _, _, h2, _⟩ := VI e
   have hm := List.mem_of_getElem? h2
   unfold cnt
   by_cases hd : a.tick ≤ v.now
   · rw [if_pos hd]
     cases hs : a.step with
     | none => show 1 ≤ 105; decide
     | some s =>
       have h3 := (L.st _ hm s hs).1
       have h4 := L.late _ hm s hs
       show ((v.now - a.tick) / s + 1).toNat ≤ 105
       have h5 : (v.now - a.tick) / s ≤ v.now - a.tick := Int.ediv_le_self _ (by omega)
       have h6 : v.now ≤ a.tick + 8 * i := h4
       omega
   · rw [if_neg hd]
     exact Nat.zero_le _
 have g63 : GoodF 63 (fnA as) := fun k a e => by
   have := Th L.st k a e
   have l8 := L.l8
   exact ⟨⟨this.1.1, by omega⟩, this.2⟩
 have m := TM h 63
 have e := L.rn.len g63
 exact ⟨by omega, by omega, h⟩
theorem okX : PyData.strOk ("x" : Str) = true := by decide +kernel
theorem Lp.set (L : Lp c H x q dw dr la S n i H0 Hi v as told lt) {d : Int} {sp : Option Int} {H' : Hp} {p : Addr} {xs : List V} (hi : i < 13) (h8 : as.length < 8) (hd : v.now < d) (hd2 : d ≤ v.now + 10000000000001) (hs : ∀ s, sp = some s → 0 < s ∧ s < 100) (hp : Hi p = none) (hx : H0 la = some (.lst xs)) (ha : AlsAt (upd (upd H0 p (.tup [.int d, Yi sp])) la (.lst (xs ++ [.ref p]))) la (as ++ [(d, sp)]))
   (b : BookAt c (upd (upd H0 p (.tup [.int d, Yi sp])) la (.lst (xs ++ [.ref p]))) H' x { v with next := v.next + 1, wait := fput v.wait v.next (some ⟨"x", d, sp⟩) }) :
   Lp c H x q dw dr la S n (i + 1) (upd (upd H0 p (.tup [.int d, Yi sp])) la (.lst (xs ++ [.ref p]))) H' { v with next := v.next + 1, wait := fput v.wait v.next (some ⟨"x", d, sp⟩) } (as ++ [(d, sp)]) told lt := by
 have hp0 := L.bk.same.free hp
 have npl : la ≠ p := fun z => by rw [← z, hx] at hp0; cases hp0
 have hx1 : upd H0 p (.tup [.int d, Yi sp]) la = some (.lst xs) := by rw [Zc npl]; exact hx
 have s1 := L.sH.trans (Same.upd (o := .tup [.int d, Yi sp]) hp0)
 have nw := L.lo.now
 have lo' := (L.lo.does (by omega) (d := .set d sp "x") ⟨Xs (by omega) (by omega), fun s e => ⟨by have := hs s e; omega, by have := hs s e; exact Xs (by omega) (by omega)⟩, okX⟩ (.setOk hd fun s e => by have := hs s e; omega) (by decide +kernel) (by decide +kernel)).1
 refine ⟨fun y o e => ?_, L.hq, L.hla, L.ne, b, (L.wd.up (Same.upd hp0)).list hx1, ha, (L.tl.same (Same.upd hp0)).off hx1 L.ne (fun _ z => by cases z), lo', L.eS, ?_, by simp; omega, ?_, fun p hp s e => ?_, fun p hp => ?_, fun p hp s e => ?_⟩
 · rw [Zc fun z => by rw [z, L.hla] at e; cases e]
   exact s1 y o e
 · show v.next + 1 = _
   rw [L.nx]
   simp
 · show Runs v.now _ told (fput v.wait v.next _)
   rw [L.nx, ← fnA_snoc]
   exact L.rn.add fnA_new hd
 · rcases List.mem_append.mp hp with hp | hp
   · exact L.st p hp s e
   · have ep : p = (d, sp) := by simpa using hp
     subst ep
     exact hs s e
 · rcases List.mem_append.mp hp with hp | hp
   · exact L.du p hp
   · have ep : p = (d, sp) := by simpa using hp
     subst ep
     exact ⟨by show 0 < d; omega, by show d ≤ _; omega⟩
 · show v.now ≤ p.1 + 8 * ((i + 1 : Nat) : Int)
   rcases List.mem_append.mp hp with hp | hp
   · have := L.late p hp s e
     omega
   · have ep : p = (d, sp) := by simpa using hp
     subst ep
     show v.now ≤ d + _
     omega
theorem Lp.pass (L : Lp c H x q dw dr la S n i H0 Hi v as told lt) {t : Int} (hi : i < 13) (h0 : 0 ≤ t) (h1 : t ≤ 10000000000000) (hs : (∃ p ∈ as, ∃ s, p.2 = some s) → t ≤ 8) {Q : VK} {Past : Addr}
   (kk : ∀ (H0' H' : Hp) (v' : Vw) (told' : List (Int × Int × Str)) (lt' : Addr), Lp c H x q dw dr la S n (i + 1) H0' H' v' as told' lt' → Q (.ref lt') H') :
   spPass c Past [.ref x, .int t] (upd Hi q (.dK (wdV ⟨S, n, v.now + t, 0, fun _ => none, fun _ => none⟩ dw dr))) (fun y H2 => rCat (.ref lt) y H2 Q) E0 := by
 have nw := L.lo.now
 have steps : ∀ k b s, v.wait k = some b → b.step = some s → t ≤ 8 ∧ 0 < s := fun k b s e1 e2 => by
   obtain ⟨a, g1, _, g3⟩ := (Sr L.rn).1 k b e1
   obtain ⟨j, _, _, g4, _⟩ := VI g1
   have hm := List.mem_of_getElem? g4
   have e3 : a.step = some s := by rw [← g3]; exact e2
   exact ⟨hs ⟨_, hm, s, e3⟩, (L.st _ hm s e3).1⟩
 have mu : muF (v.now + t) 63 v.wait ≤ 1000000 := mu_few L.lo (fun k b s e1 e2 => by
   obtain ⟨z1, z2⟩ := steps k b s e1 e2
   exact div_small h0 (by omega) z2) h0
 have bq := L.bk.out (x := q) (o := .dK (wdV ⟨S, n, v.now + t, 0, fun _ => none, fun _ => none⟩ dw dr)) (.inr ⟨_, L.wd.top⟩)
 have wq := L.wd.wTop (v' := ⟨S, n, v.now + t, 0, fun _ => none, fun _ => none⟩) rfl rfl
 have nlq : la ≠ q := fun z => by
   obtain ⟨qs, _, h, _⟩ := L.al
   rw [z, L.wd.top] at h
   cases h
 have ntq : lt ≠ q := fun z => by
   obtain ⟨qs, _, h, _⟩ := L.tl
   rw [z, L.wd.top] at h
   cases h
 have aq := L.al.off (o := .dK (wdV ⟨S, n, v.now + t, 0, fun _ => none, fun _ => none⟩ dw dr)) L.wd.top nlq (fun _ z => by cases z)
 have tq := L.tl.off (o := .dK (wdV ⟨S, n, v.now + t, 0, fun _ => none, fun _ => none⟩ dw dr)) L.wd.top ntq (fun _ z => by cases z)
 have sq : Same H (upd H0 q (.dK (wdV ⟨S, n, v.now + t, 0, fun _ => none, fun _ => none⟩ dw dr))) := fun y o e => by
   rw [Zc fun z => by rw [z, L.hq] at e; cases e]
   exact L.sH y o e
 refine ⟨_, x, v, t, rfl, bq, Xs (by omega) (by omega), fun z => absurd z (by omega), fun _ => ⟨mu, fun H' H1 lr rs g sm hlr rat b rn => ?_⟩⟩
 have rall := L.rn.append rn (by omega)
 have lo' := (L.lo.does (by omega) (d := .pass t) ⟨Xs (by omega) (by omega), h1, fun _ => mu⟩ (.passOk h0 rn) (by decide +kernel) (by decide +kernel)).1
 obtain ⟨xs, zs, e1, e2, e3, e4, e5⟩ := (tq.same sm).plus rat
 have l1 := (L.few (by omega)).2.1
 have l2 : rs.length ≤ 1000000 := by rw [rn.len L.lo.good]; exact mu
 refine ⟨lt, lr, xs, zs, rfl, rfl, b.same _ _ e1, b.same _ _ e2, Nat.le_trans (by rw [e3, e4]; omega : _ ≤ 2000000) (by decide), fun p hp => ?_⟩
 have hp1 := b.same.free hp
 refine kk _ _ _ (told ++ rs) p ⟨sq.trans (sm.trans (Same.upd hp1)), L.hq, L.hla, fun z => ?_, b.out (.inl hp), (wq.up sm).up (Same.upd hp1), (aq.up sm).up (Same.upd hp1), e5 p hp1, lo', L.eS, L.nx, L.l8, rall, L.st, L.du, fun p hp s e => ?_⟩
 · obtain ⟨qs, _, h, _⟩ := aq.up sm
   rw [← z, hp1] at h
   cases h
 · show v.now + t ≤ p.1 + 8 * ((i + 1 : Nat) : Int)
   have z1 := L.late p hp s e
   have z2 := hs ⟨p, hp, s, e⟩
   omega
end
end Tk
end
section
namespace L2
open PySem PySem.Spec PyProof.Rows
def rAllT (K : W.Frag) : List V → Hp → VK → Prop := fun xs H Q => ∃ (a : Addr) (n : Nat), xs = [.ref a] ∧ SqL K H a (List.replicate n (.bl true)) ∧ Q (.bl true) H
theorem call_allT {X : Cx} (hc : X.calm = true) : XV X (.builtin "all") (rAllT X.K) := by
 intro pins s σ H xs us Q I r h
 obtain ⟨a, n, rfl, hq, k⟩ := h
 obtain ⟨u, rfl, ru⟩ := Ud r
 cases ru
 obtain ⟨its, rv, pl, hz⟩ := I.list hq
 have hl := pl.isList
 have hlt : a < s.heap.objs.size := by obtain ⟨_, e, _⟩ := hl; exact Heap.lt_size e
 have tr : ∀ v ∈ its, v = .bool true := fun v hv => by
   obtain ⟨i, hi⟩ := List.mem_iff_getElem?.mp hv
   have hl2 := rv.length
   rw [List.length_replicate] at hl2
   have hin : i < n := by have := (List.getElem?_eq_some_iff.mp hi).1; omega
   obtain ⟨w', h1, h2⟩ := rv.get (i := i) (x := V.bl true) (by simp [hin])
   rw [hi] at h1
   cases h1
   exact h2
 refine call_all_walk (wpAny_pyIter_list hl ?_)
 refine ⟨s.heap.objs.size, _, _, _, _, _, fun _ => true, rfl, Walks.list (prog := X.prog) (w := X.w) (A := X.A.in1) (I.ok.hd hc) s.heap.objs.size a (Nat.ne_of_lt hlt) its.toArray, ⟨⟨_, Heap.get?_push_size _ rfl, rfl, rfl⟩, ?_⟩, fun i v s' Q' E' hp hQ => ?_, fun h' tk kk => ?_⟩
 · obtain ⟨o, e, r⟩ := hl
   exact ⟨o, Heap.get?_push_of_some _ e, r⟩
 · have hp' : its.toArray[i]? = some v := hp
   rw [tr v (List.mem_of_getElem? (by simpa using hp'))]
   exact wpAny_truthy_bool hQ
 · refine ⟨.bl true, H, I.kept (fun b o e => kk b o (fun m => ?_) (Heap.get?_push_of_some _ e)), ?_, k⟩
   · have z := List.mem_singleton.mp m
     have q := Heap.lt_size e
     rw [z] at q
     exact Nat.lt_irrefl _ q
   · show Value.bool ((List.range _).all fun _ => true) = Value.bool true
     simp
theorem comp_listC {K : W.Frag} {a : Addr} {xs : List V} {fv : List (Option Nat)} {jx : Nat} {tc : TT} {te : TE} {σ : St} {H : Hp} {Q : VK} (Pv : Nat → List V → Hp → Prop) (h0 : Pv 0 [] H)
   (hl : ∀ i ys H, i ≤ xs.length → Pv i ys H → SqL K H a xs ∧ ys.length < sizeLine)
   (hs : ∀ i x ys H (N : List V → Hp → Prop), xs[i]? = some x → Pv i ys H → (∀ ys' H3, Pv (i + 1) ys' H3 → N ys' H3) → tc ((blk fv σ).set jx (some x)) H fun b H2 => if b = true then te ((blk fv σ).set jx (some x)) H2 fun y H3 => N (ys ++ [y]) H3 else N ys H2)
   (hd : ∀ ys H, Pv xs.length ys H → ∀ acc, H acc = none → Q (.ref acc) (upd H acc (.lst ys))) : Vf (Itl K a) fv jx tc te σ H Q := by
 refine ⟨fun i m ys H => m = xs.length - i ∧ i ≤ xs.length ∧ Pv i ys H, ⟨xs.length, by simp, Nat.zero_le _, h0⟩, ?_⟩
 rintro i m ys H ⟨rfl, hi, p⟩
 obtain ⟨q, hz⟩ := hl i ys H hi p
 refine ⟨hz, ?_⟩
 by_cases hlt : i < xs.length
 · refine .inr ⟨⟨xs, xs[i], q, by simp [hlt]⟩, fun x H' y => ?_⟩
   obtain ⟨e, y⟩ := y
   subst e
   exact hs i x ys _ (fun ys' H3 => ∃ m', m' < xs.length - i ∧ m' = xs.length - (i + 1) ∧ i + 1 ≤ xs.length ∧ Pv (i + 1) ys' H3) (y xs q) p fun ys' H3 p3 => ⟨_, by omega, rfl, hlt, p3⟩
 · have e : i = xs.length := by omega
   subst e
   exact .inl ⟨⟨xs, q, Nat.le_refl _⟩, hd ys H p⟩
end L2
namespace Tk
open PySem L2 Mir Rk Tb
open PyProof.Rows (boot_sorted boot_min boot_enumerate boot_isinstance boot_sum boot_max)
theorem boot_all : bootBuiltins "all" = some (.builtin "all") := by decide +kernel
section
variable {P : Program} {w : World} {K : W.Frag} {mg : Str → Option Value} {base : Heap} {a : Ad}
def spLaw (K : W.Frag) : Sp := fun vs H Q _ => ∃ (l : Addr) (ns : List Int), vs = [.ref l] ∧ SqL K H l (ns.map V.int) ∧ ns.length ≤ 63 ∧ ∀ H', Q (.bl true) H'
theorem sc_law : FnScope ["_law_script", "_law_slots", "_law_levels", "_law_book", "_law_world", "_law_alarms", "_law_told", "_law_k", "_law_number", "_law_ticks_here", "_law_step", "_law_other", "_law_due_here"] ["_law_script"] (Ze TH) := Zr
abbrev tcOne (K : W.Frag) : TT := tTest (tOp (fun x y H Q => y = .non ∧ Q (.bl (!decide (x = .non))) H) (tOp (rIxT K) (tVar 0) (tC (.int 1))) (tC .non))
theorem steps_comp {σ : St} {la : Addr} {as : List (Int × Option Int)} {H : Hp} {Q : VK} (ha : AlsAt H la as) (h8 : as.length ≤ 8) (hσ : blk [none] σ = [none])
   (hd : ∀ acc ys, H acc = none → (ys = [] → ¬ ∃ p ∈ as, ∃ s, p.2 = some s) → Q (.ref acc) (upd H acc (.lst ys))) : Vf (Itl K la) [none] 0 (tcOne K) (tVar 0) σ H Q := by
 obtain ⟨qs, e, hl, ht⟩ := ha
 have lq : qs.length = as.length := by rw [← e, List.length_map]
 refine comp_listC (xs := qs.map fun q => V.ref q.1) (fun i ys Hi => Hi = H ∧ ys.length ≤ i ∧ (ys = [] → ¬ ∃ p ∈ as.take i, ∃ s, p.2 = some s)) ⟨rfl, Nat.le_refl _, fun _ ⟨p, hp, _⟩ => by simp at hp⟩ ?_ ?_ ?_
 · rintro i ys Hi hi ⟨rfl, h1, _⟩
   rw [List.length_map] at hi
   exact ⟨SqL.of hl, Nat.lt_of_le_of_lt (by omega : _ ≤ 8) (by decide)⟩
 · rintro i x ys Hi N hx ⟨rfl, h1, h2⟩ kq
   rw [List.getElem?_map] at hx
   obtain ⟨q, hq, rfl⟩ := Option.map_eq_some_iff.mp hx
   have hp : as[i]? = some q.2 := by rw [← e, List.getElem?_map, hq]; rfl
   have tq := ht q (List.mem_of_getElem? hq)
   have tk : as.take (i + 1) = as.take i ++ [q.2] := by rw [List.take_add_one, hp]; rfl
   rw [hσ]
   obtain ⟨ad, d, sp⟩ := q
   cases sp with
   | none =>
     refine ⟨_, rfl, _, _, _, _, rfl, rfl, SqT.of tq, rfl, rfl, _, rfl, iteF (kq _ _ ⟨rfl, by omega, fun z => ?_⟩)⟩
     rintro ⟨p, hp, s, hs⟩
     rw [tk] at hp
     rcases List.mem_append.mp hp with hp | hp
     · exact h2 z ⟨p, hp, s, hs⟩
     · have ep : p = (d, none) := by simpa using hp
       subst ep
       cases hs
   | some sp =>
     refine ⟨_, rfl, _, _, _, _, rfl, rfl, SqT.of tq, rfl, rfl, _, rfl, iteT ⟨_, rfl, kq _ _ ⟨rfl, by simp; omega, fun z => by simp at z⟩⟩⟩
 · rintro ys Hi ⟨rfl, h1, h2⟩ acc hacc
   rw [List.length_map, lq, List.take_length] at h2
   exact hd acc ys hacc h2
set_option maxHeartbeats 8000000 in
theorem ok_law (T : Txt K mg a) : FnOk P w K mg base (CXe P w) 12 a.f_law a.fd_law ["_law_script"] (spLaw K) := by
 have G__law_mix := XG (P := P) (w := w) (base := base) T
 have G__law_wheels := UX (P := P) (w := w) (base := base) T
 have G_Book := SA (P := P) (w := w) (base := base) T
 have G__law_new := ok__law_new (P := P) (w := w) (base := base) T
 have G__law_ticks := Ty (P := P) (w := w) (base := base) T
 have G_set_alarm := Sx (P := P) (w := w) (base := base) T
 have G_pass_ticks := Tu (P := P) (w := w) (base := base) T
 have G__law_due := ok__law_due (P := P) (w := w) (base := base) T
 have G__law_whole := Tx (P := P) (w := w) (base := base) T
 refine T.F_law.okN sc_law (fun vs H Q E h => ?_) (fun cdv A' outer s H vs Q E hr h => ?_)
 · obtain ⟨l, ns, rfl, _⟩ := h
   rfl
 · obtain ⟨l, ns, rfl, hl, hlen, k⟩ := h
   have hu := Vj hr
   refine ⟨_, YZ, ?_⟩
   refine Zz (ps_asg (Zu G__law_wheels (hr.mono (by decide)) (by rfl) T.f__law_wheels T.kp__law_wheels T.B__law_wheels .nil ZC (Za (pv 0) (Za Zj Zf))) (Su rfl (YS (Ym (i := 1) sc_law.nd rfl (Or.inl rfl)) (YS (Ym (i := 2) sc_law.nd rfl (Or.inl rfl)) Ur)))) ?_
   refine ⟨_, rfl, l, ns, _, rfl, hl, fun S n H1 p1 hS hn s1 hp1 => ?_⟩
   refine ⟨_, _, rfl, SqT.of hp1, rfl, _, _, rfl, _, _, rfl, rfl, ?_⟩
   refine Zz (Zs (i := 3) sc_law.nd rfl (Or.inl rfl) (Vx T.M_Book G_Book (hr.mono (by decide)) rfl T.c_Book T.B_Book___init__ .nil ZC (Za (pv 1) (Za (pv 2) Zf)))) ?_
   refine ⟨_, rfl, _, rfl, fun x dx hx hdx nx => ?_⟩
   have sA : Same H1 (upd (upd H1 dx (.own x)) x (.ins a.C_Book dx [])) := fun b o e => by
     rw [Zc (Zk e hx), Zc (Zk e hdx)]
     exact e
   have gw : VL S n := ⟨hS, by omega, by omega⟩
   refine ⟨H1, x, dx, S, n, rfl, Xs (by omega) (by omega), Xs (by omega) (by omega), sA, hx, Zb, (fun z => absurd gw z), fun _ H2 b => ⟨rfl, ?_⟩⟩
   replace b : BookAt (clOf a) H1 H2 x (newV S n) := by
     have e : ((n : Int)).toNat = n := Int.toNat_natCast n
     rw [e] at b
     exact b
   refine Zz (Zs (i := 4) sc_law.nd rfl (Or.inl rfl) (Zu G__law_new (hr.mono (by decide)) (by rfl) T.f__law_new T.kp__law_new T.B__law_new .nil ZC (Za (pv 1) (Za (pv 2) Zf)))) ?_
   refine ⟨_, rfl, _, rfl, S, n, rfl, fun q dw dr hq hdw hdr => ?_⟩
   have nqw : q ≠ dw := fun z => by rw [← z, Zb] at hdw; cases hdw
   have nwr : dw ≠ dr := fun z => by rw [← z, Zb] at hdr; cases hdr
   have nqr : q ≠ dr := fun z => by rw [← z, Zc nqw, Zb] at hdr; cases hdr
   have hw2 : H2 dw = none := by rw [Zc nqw.symm] at hdw; exact hdw
   have hr2 : H2 dr = none := by rw [Zc nwr.symm, Zc nqr.symm] at hdr; exact hdr
   have hq1 := b.same.free hq
   have hw1 := b.same.free hw2
   have hr1 := b.same.free hr2
   have b3 := (((b.out (o := .dK []) (.inl hq)).out (o := .dK []) (.inl hdw)).out (o := .dK []) (.inl hdr)).out (x := q) (o := .dK (wdV (newV S n) dw dr)) (.inr ⟨.dK [], by rw [Zc nqr, Zc nqw]; exact Zb⟩)
   have w3 : WAt (upd (upd (upd (upd H1 q (.dK [])) dw (.dK [])) dr (.dK [])) q (.dK (wdV (newV S n) dw dr))) q dw dr [] [] (newV S n) :=
     ⟨Zb, by rw [Zc nqw.symm, Zc nwr]; exact Zb, by rw [Zc nqr.symm]; exact Zb, (fun p hp => by cases hp), (fun p hp => by cases hp), nqw, nqr, nwr, List.nodup_nil, List.nodup_nil, rfl, rfl⟩
   have s3 : Same H (upd (upd (upd (upd H1 q (.dK [])) dw (.dK [])) dr (.dK [])) q (.dK (wdV (newV S n) dw dr))) := fun y o e => by
     have e1 := s1 y o e
     rw [Zc (Zk e1 hq1), Zc (Zk e1 hr1), Zc (Zk e1 hw1), Zc (Zk e1 hq1)]
     exact e1
   have hqE := s1.free hq1
   have hwE := s1.free hw1
   have hrE := s1.free hr1
   have lo0 : LOk 0 (newV S n) := ⟨by decide, hS, ⟨Int.le_refl _, by show (0 : Int) ≤ _; decide⟩, ⟨Int.le_refl _, by show (0 : Int) ≤ _; decide⟩, (fun k a e => by cases e), (fun k a e => by cases e)⟩
   generalize upd (upd (upd (upd H1 q (.dK [])) dw (.dK [])) dr (.dK [])) q (.dK (wdV (newV S n) dw dr)) = H03 at b3 w3 s3
   generalize upd (upd (upd (upd H2 q (.dK [])) dw (.dK [])) dr (.dK [])) q (.dK (wdV (newV S n) dw dr)) = H3 at *
   have n3 : H3 q ≠ none := fun z => by rw [b3.same _ _ w3.top] at z; cases z
   refine Zz (Zs (i := 5) sc_law.nd rfl (Or.inl rfl) (YX Zf)) ?_
   refine ⟨by decide, fun la hla => ?_⟩
   refine Zz (Zs (i := 6) sc_law.nd rfl (Or.inl rfl) (YX Zf)) ?_
   refine ⟨by decide, fun lt hlt => ?_⟩
   have ntl : la ≠ lt := fun z => by rw [← z, Zb] at hlt; cases hlt
   have hla0 := b3.same.free hla
   have b4 := b3.out (o := .lst []) (.inl hla)
   have b5 := b4.out (o := .lst []) (.inl hlt)
   have hlt0 := b4.same.free hlt
   have s4 : Same H03 (upd (upd H03 la (.lst [])) lt (.lst [])) := (Same.upd hla0).trans (Same.upd hlt0)
   have rn0 : Runs 0 (fnA []) [] (fun _ => none) := by
     have e : fnA [] = fun _ => none := by
       funext m
       unfold fnA
       simp
     rw [e]
     exact .stop fun m b e => by cases e
   have L0 : Lp (clOf a) H x q dw dr la S n 0 (upd (upd H03 la (.lst [])) lt (.lst [])) (upd (upd H3 la (.lst [])) lt (.lst [])) (newV S n) [] [] lt :=
     ⟨s3.trans s4, hqE, s3.free hla0, ntl.symm, b5, w3.up s4, ⟨[], rfl, by rw [Zc ntl]; exact Zb, fun _ h => by cases h⟩, ⟨[], rfl, Zb, fun _ h => by cases h⟩, lo0, rfl, rfl, by decide, rn0, (fun p h => by cases h), (fun p h => by cases h), (fun p h => by cases h)⟩
   generalize upd (upd H03 la (.lst [])) lt (.lst []) = H04 at L0
   generalize upd (upd H3 la (.lst [])) lt (.lst []) = H4 at *
   refine Zz (XE PassesOwn.never rfl (XZ rfl T.b_range (Za (Zm Yl (Zu G__law_mix (hr.mono (by decide)) (by rfl) T.f__law_mix T.kp__law_mix T.B__law_mix .nil ZC (Za (pv 0) (Za Zj Zf))) Zj) Zf)) (Ym (i := 7) sc_law.nd rfl (Or.inl rfl)) YZ) ?_
   refine ⟨_, rfl, l, ns, _, rfl, (L0.sH.trans L0.bk.same).seq hl, fun m g0 g1 => ?_⟩
   have e3 := Int.emod_nonneg m (b := 14) (by omega)
   have e4 := Int.emod_lt_of_pos m (b := 14) (by omega)
   refine ⟨_, _, rfl, rfl, (by show (0 : Int) < 14; decide), _, rfl, (by omega), (by omega), ?_⟩
   refine Vc (lo := 0) (n := (m % 14).toNat) (fun i σ Hi => ∃ H0i v as told lt x7 x8 x9 x10, σ = [some (.ref l), some (.int S), some (.int n), some (.ref x), some (.ref q), some (.ref la), some (.ref lt), x7, x8, x9, x10, none, none] ∧ Lp (clOf a) H x q dw dr la S n i H0i Hi v as told lt) ⟨H04, newV S n, [], [], lt, none, none, none, none, rfl, L0⟩ ?_ ?_
   · rintro i σ Hi hi ⟨H0i, v, as, told, lt, x7, x8, x9, x10, rfl, L⟩
     have hi13 : i < 13 := by omega
     refine Zz (Zs (i := 8) sc_law.nd rfl (Or.inl rfl) (Zu G__law_mix (hr.mono (by decide)) (by rfl) T.f__law_mix T.kp__law_mix T.B__law_mix .nil ZC (Za (pv 0) (Za (Zm Ye Zj (Zm YY Zj (pv 7))) Zf)))) ?_
     refine ⟨_, rfl, _, rfl, _, _, rfl, rfl, .inl ⟨by decide, by decide⟩, _, _, rfl, rfl, l, ns, _, rfl, (L.sH.trans L.bk.same).seq hl, fun num u0 u1 => ?_⟩
     refine Zz (Zs (i := 9) sc_law.nd rfl (Or.inl rfl) (Zu G__law_ticks (hr.mono (by decide)) (by rfl) T.f__law_ticks T.kp__law_ticks T.B__law_ticks .nil ZC (Za (pv 0) (Za (Zm Ye Zj (Zm YY Zj (pv 7))) (Za (pv 4) Zf))))) ?_
     refine ⟨_, rfl, _, rfl, _, _, rfl, rfl, .inl ⟨by decide, by decide⟩, _, _, rfl, rfl, _, rfl, H0i, l, ns, _, q, dw, dr, _, i, rfl, (L.sH.trans L.bk.same).seq hl, L.bk.same, ⟨[], [], L.wd⟩, L.law, fun H0a Ha t fa t0 t1 => ?_⟩
     replace L := L.fr fa
     obtain ⟨qs, eq, hql, hqt⟩ := id L.al
     have lq : qs.length = as.length := by rw [← eq, List.length_map]
     have hql' := L.bk.same _ _ hql
     have w1 := L.wd.up L.bk.same
     refine Xy (YC (pw_and (Zy op_gt (Zm Yl (pv 8) Zj) Zj (ZG _)) (Ss (Zy UV (Yd Yg (by rfl) T.b_len boot_len (Za (pv 5) Zf)) Zj (ZG _)))).pt YZ YZ) ?_
     refine ⟨_, rfl, _, _, rfl, rfl, (by show (0 : Int) < 3; decide), _, _, rfl, rfl, _, rfl, ite2 (fun c1 => ⟨_, rfl, la, _, rfl, .inl (SqL.of hql'), _, _, rfl, rfl, _, rfl, ite2 (fun c2 => ?set) (fun c2 => ?pass1)⟩) (fun c1 => iteF ?pass2)⟩
     case set =>
       have c2' := of_decide_eq_true c2
       rw [List.length_map, lq] at c2'
       refine Zz (Zs (i := 10) sc_law.nd rfl (Or.inl rfl) (YT Yw (YX (Za YM (Za YM (Za (Zm Ye Zj (Zm Yl (Zm ZO (pv 8) Zj) Zj)) Zf)))) (Zm Yl (Zm ZO (pv 8) Zj) Zj) (fun _ _ => rfl))) ?_
       refine ⟨_, rfl, _, _, rfl, rfl, ⟨by decide, by decide⟩, _, _, rfl, rfl, (by show (0 : Int) < 9; decide), _, _, rfl, rfl, (by show 3 ≤ sizeLine; decide), fun p1 hp1 => ?_⟩
       have m0 := Int.emod_nonneg (num / 3) (b := 9) (by omega)
       have m1 := Int.emod_lt_of_pos (num / 3) (b := 9) (by omega)
       obtain ⟨sv, hsv, hsm⟩ := pick (xs := [V.non, V.non, V.int (1 + num / 3 % 9)]) (i := num / 27 % 3) (Int.emod_nonneg _ (by decide)) (Int.emod_lt_of_pos _ (by decide))
       obtain ⟨sp, rfl, hsp⟩ : ∃ sp, sv = Yi sp ∧ ∀ s, sp = some s → 0 < s ∧ s < 100 := by
         simp at hsm
         rcases hsm with rfl | rfl
         · exact ⟨none, rfl, fun s e => by cases e⟩
         · exact ⟨some (1 + num / 3 % 9), rfl, fun s e => by cases e; omega⟩
       refine ⟨_, rfl, _, _, rfl, rfl, ⟨by decide, by decide⟩, _, _, rfl, rfl, (by show (0 : Int) < 3; decide), p1, _, _, _, rfl, rfl, SqL.of Zb, hsv, ?_⟩
       replace L := L.up (o := .lst [V.non, V.non, V.int (1 + num / 3 % 9)]) hp1
       clear hql hqt hql' w1
       have w1 := L.wd.up L.bk.same
       refine Zz (ZK (UU F.plainAttrs_list F.slot_list_append F.type_list_append Vb (pv 5) (Za (Vn (Za (Zm Ye (Zm Ye (Yy hu (pv 4) Yc (fun _ _ => rfl)) Zj) (pv 9)) (Za (pv 10) Zf))) Zf))) ?_
       obtain ⟨qs, eq, hql, hqt⟩ := id L.al
       have hql' := L.bk.same _ _ hql
       refine ⟨_, rfl, .inl ⟨rfl, _, SqL.of hql'⟩, _, rfl, _, _, rfl, w1.gNow, _, _, rfl, rfl, _, rfl, _, _, rfl, rfl, _, rfl, (by show 2 ≤ sizeLine; decide), fun tp htp => ?_⟩
       obtain ⟨xs, hx1, hx2, hx3⟩ := L.al.snoc (d := v.now + 1 + t) (sp := sp) (L.bk.same.free htp)
       have hx1' := L.bk.same _ _ hx1
       have ntl : la ≠ tp := fun z => by rw [← z, hx1'] at htp; cases htp
       refine ⟨_, _, _, rfl, rfl, by rw [Zc ntl]; exact hx1', Nat.lt_of_le_of_lt (by omega : _ ≤ 8) (by decide), ?_⟩
       have b2 := (L.bk.out (o := .tup [.int (v.now + 1 + t), Yi sp]) (.inl htp)).out (x := la) (o := .lst (xs ++ [.ref tp])) (.inr ⟨_, by rw [Zc ntl]; exact hx1⟩)
       have w2 := ((L.wd.up (Same.upd (o := .tup [.int (v.now + 1 + t), Yi sp]) (L.bk.same.free htp))).list (ys := xs ++ [.ref tp]) (by rw [Zc ntl]; exact hx1)).up b2.same
       have nw := L.lo.now
       have nx := L.nx
       refine Xy (YC (Zy op_ne (Zu G_set_alarm (hr.mono (by decide)) (by rfl) T.f_set_alarm T.kp_set_alarm T.B_set_alarm .nil ZC (Za (pv 3) (Za Yc (Za (Zm Ye (Zm Ye (Yy hu (pv 4) Yc (fun _ _ => rfl)) Zj) (pv 9)) (Za (pv 10) Zf))))) (Zm VT (Yd Yg (by rfl) T.b_len boot_len (Za (pv 5) Zf)) Zj) (ZG _)) (Zi (ZA pe_bl)) Yf) ?_
       refine ⟨_, rfl, _, rfl, _, _, rfl, w2.gNow, _, _, rfl, rfl, _, rfl, _, _, rfl, rfl, _, rfl, _, x, v, "x", v.now + 1 + t, sp, rfl, b2, Xs (by omega) (by omega), (fun s e => by have := hsp s e; exact Xs (by omega) (by omega)), (by omega), (fun z => by
         rcases z with z | ⟨s, e, z⟩
         · omega
         · have := hsp s e
           omega), fun hd hs H' b3 => ?_⟩
       have L2 := L.set hi13 (by omega) (by omega) (by omega) hsp htp hx1 hx3 b3
       have hl3 := b3.same _ _ (show upd (upd _ tp (.tup [.int (v.now + 1 + t), Yi sp])) la (.lst (xs ++ [.ref tp])) la = some (.lst (xs ++ [.ref tp])) from Zb)
       refine ⟨_, rfl, la, _, rfl, .inl (SqL.of hl3), _, _, rfl, rfl, rfl, _, rfl, ?_⟩
       have ez : V.int v.next = V.int (((xs ++ [V.ref tp]).length : Int) - 1) := by
         rw [List.length_append, hx2, nx]
         simp
       rw [ez]
       rw [show (!decide (V.int (((xs ++ [V.ref tp]).length : Int) - 1) = V.int (((xs ++ [V.ref tp]).length : Int) - 1))) = false by simp]
       exact iteF ⟨_, _, _, told, lt, _, _, _, _, rfl, L2⟩
     case pass1 | pass2 =>
       refine Zz (YC (UP (VA (te := tVar 0) (tc := tcOne K) (NB := ["_law_one"]) (fv := [none]) (jx := 0) rfl (Uc rfl rfl (by decide +kernel)) (Va (pv 5)) rfl rfl rfl (fun _ _ _ => pifs_one (Zy Sv (YT SE (pv 0) Zj (fun _ _ => rfl)) YM (ZG _))) (fun _ _ _ => pv 0)) (fun _ => rfl)) (Zi (Zs (i := 9) sc_law.nd rfl (Or.inl rfl) (Zm Yl (pv 9) Zj))) Yf) ?_
       refine ⟨_, rfl, la, rfl, ⟨_, SqL.of hql'⟩, steps_comp (L.al.up L.bk.same) L.l8 rfl fun acc ys hacc hys => ?_⟩
       have L' := L.up (o := .lst ys) hacc
       have w2 := L'.wd.up L'.bk.same
       cases ys with
       | nil =>
         refine ⟨false, .inl ⟨_, SqL.of Zb, rfl⟩, iteF ?_⟩
         refine Zz (Xu hu (pv 4) Yc (Zm Ye (Yy hu (pv 4) Yc (fun _ _ => rfl)) (pv 9)) rfl) ?_
         refine ⟨_, rfl, _, _, rfl, w2.gNow, _, rfl, _, _, rfl, rfl, _, rfl, _, _, rfl, w2.pNow _, ?_⟩
         refine Xy (Zs (i := 6) sc_law.nd rfl (Or.inl rfl) (Zm UW (pv 6) (Zu G_pass_ticks (hr.mono (by decide)) (by rfl) T.f_pass_ticks T.kp_pass_ticks T.B_pass_ticks .nil ZC (Za (pv 3) (Za (pv 9) Zf))))) ?_
         exact ⟨_, rfl, _, rfl, _, rfl, L'.pass hi13 t0 t1 (fun z => absurd z (hys rfl)) fun H0' H' v' told' lt' L2 => ⟨H0', v', as, told', lt', _, _, _, _, rfl, L2⟩⟩
       | cons y ys =>
         refine ⟨true, .inl ⟨_, SqL.of Zb, rfl⟩, iteT ?_⟩
         refine ⟨_, rfl, _, _, rfl, rfl, (by show (0 : Int) < 9; decide), ?_⟩
         have m0 := Int.emod_nonneg t (b := 9) (by omega)
         have m1 := Int.emod_lt_of_pos t (b := 9) (by omega)
         refine Zz (Xu hu (pv 4) Yc (Zm Ye (Yy hu (pv 4) Yc (fun _ _ => rfl)) (pv 9)) rfl) ?_
         refine ⟨_, rfl, _, _, rfl, w2.gNow, _, rfl, _, _, rfl, rfl, _, rfl, _, _, rfl, w2.pNow _, ?_⟩
         refine Xy (Zs (i := 6) sc_law.nd rfl (Or.inl rfl) (Zm UW (pv 6) (Zu G_pass_ticks (hr.mono (by decide)) (by rfl) T.f_pass_ticks T.kp_pass_ticks T.B_pass_ticks .nil ZC (Za (pv 3) (Za (pv 9) Zf))))) ?_
         exact ⟨_, rfl, _, rfl, _, rfl, L'.pass hi13 m0 (by omega) (fun z => by omega) fun H0' H' v' told' lt' L2 => ⟨H0', v', as, told', lt', _, _, _, _, rfl, L2⟩⟩
   · rintro σ Hi ⟨H0i, v, as, told, lt, x7, x8, x9, x10, rfl, L⟩
     have hm13 : (m % 14).toNat ≤ 13 := by omega
     obtain ⟨few1, few2, few3⟩ := L.few hm13
     have w1 := L.wd.up L.bk.same
     have al := L.al.up L.bk.same
     have tl := L.tl.same L.bk.same
     have shp : SeqAt.shaped (.list (told.map UN)) = true := shaped_ret (r := .rings told) fun r hr' => by
       obtain ⟨k', al', h1, h2⟩ := (Sr L.rn).2 r hr'
       obtain ⟨_, _, _, _, h3⟩ := VI h1
       rw [h2, h3]
       exact okX
     refine Zz (YC (pw_or (Zy (op_neD hr.units) (pv 6) (Zu G__law_due (hr.mono (by decide)) (by rfl) T.f__law_due T.kp__law_due T.B__law_due .nil ZC (Za (pv 5) (Za (Yy hu (pv 4) Yc (fun _ _ => rfl)) Zf))) (ZG _))
       (pw_or1 (pt_not (UP (Yd (call_allT rfl) (by rfl) T.b_all boot_all (Za (VA (te := tAndV (tCall Sg [] E0 (UE (tOp (rIxT K) (tVar 0) (tC (.int 0))) tNil)) (tCall Sg [] E0 (UE (tOp (rIxT K) (tVar 0) (tC (.int 1))) tNil))) (NB := ["_law_one"]) (fv := [none]) (jx := 0) rfl (Uc rfl rfl (by decide +kernel)) (Va (pv 6)) rfl rfl rfl (fun _ _ _ => UR) (fun _ _ _ => pe_and (Zu G__law_whole (hr.mono (by decide)) (by rfl) T.f__law_whole T.kp__law_whole T.B__law_whole .nil ZC (Za (YT SE (pv 0) Zj (fun _ _ => rfl)) Zf)) (pe_one (Zu G__law_whole (hr.mono (by decide)) (by rfl) T.f__law_whole T.kp__law_whole T.B__law_whole .nil ZC (Za (YT SE (pv 0) Zj (fun _ _ => rfl)) Zf))))) Zf)) (fun _ => rfl))))).pt (Zi (ZA pe_bl)) Yf) ?_
     refine ⟨_, rfl, _, rfl, _, rfl, _, _, rfl, w1.gNow, la, v.now, as, told, v.wait, rfl, al, L.l8, L.st, L.rn, few2, fun H5 lr s5 r5 => ?_⟩
     have tl5 := tl.same s5
     refine ⟨_, _, tl5.den, r5.den, shp, shp, _, rfl, ?_⟩
     rw [eqv_self shp]
     refine iteF ?_
     obtain ⟨qs, eq, hql, hqt⟩ := id tl5
     have lq : qs.length = told.length := by rw [← eq, List.length_map]
     refine ⟨_, rfl, lt, rfl, ⟨_, SqL.of hql⟩, TX (xs := qs.map fun q => V.ref q.1) (fun i ys Hk => H5 = Hk ∧ ys = List.replicate i (.bl true)) ⟨rfl, rfl⟩ ?_ ?_ ?_⟩
     · rintro i ys Hk hi ⟨rfl, rfl⟩
       rw [List.length_map] at hi
       rw [List.length_replicate]
       exact ⟨SqL.of hql, big1m (by omega)⟩
     · rintro i y ys Hk Q' hy ⟨rfl, rfl⟩ kq
       rw [List.getElem?_map] at hy
       obtain ⟨qq, hqq, rfl⟩ := Option.map_eq_some_iff.mp hy
       have tq := hqt qq (List.mem_of_getElem? hqq)
       refine ⟨_, rfl, _, _, _, _, rfl, rfl, SqT.of tq, rfl, _, rfl, _, rfl, iteT ⟨_, rfl, _, _, _, _, rfl, rfl, SqT.of tq, rfl, _, rfl, kq _ _ ⟨rfl, ?_⟩⟩⟩
       rw [List.replicate_succ']
     · rintro ys Hk ⟨rfl, rfl⟩ acc hacc
       refine ⟨acc, _, rfl, SqL.of Zb, _, rfl, iteF ?_⟩
       have sA := s5.trans (Same.upd (o := .lst (List.replicate (qs.map fun q => V.ref q.1).length (.bl true))) hacc)
       generalize upd H5 acc (.lst (List.replicate (qs.map fun q => V.ref q.1).length (.bl true))) = H6 at sA
       have w6 := w1.up sA
       have al6 := al.up sA
       have tl6 := tl.same sA
       refine Zz (Zs (i := 11) sc_law.nd rfl (Or.inl rfl) (Vx T.M_Book G_Book (hr.mono (by decide)) rfl T.c_Book T.B_Book___init__ .nil ZC (Za (pv 1) (Za (pv 2) Zf)))) ?_
       refine ⟨_, rfl, _, rfl, fun x2 dx2 hx2 hdx2 nx2 => ?_⟩
       have sB : Same H6 (upd (upd H6 dx2 (.own x2)) x2 (.ins a.C_Book dx2 [])) := fun b o e => by
         rw [Zc (Zk e hx2), Zc (Zk e hdx2)]
         exact e
       refine ⟨H6, x2, dx2, S, n, rfl, Xs (by omega) (by omega), Xs (by omega) (by omega), sB, hx2, Zb, (fun z => absurd gw z), fun _ H7 b7 => ⟨rfl, ?_⟩⟩
       replace b7 : BookAt (clOf a) H6 H7 x2 (newV S n) := by
         have e : ((n : Int)).toNat = n := Int.toNat_natCast n
         rw [e] at b7
         exact b7
       obtain ⟨qa, ea, hqa, hta⟩ := id al6
       have la8 : qa.length = as.length := by rw [← ea, List.length_map]
       refine Zz (XE PassesOwn.never rfl (Va (pv 5)) (Su rfl (YS (Ym (i := 12) sc_law.nd rfl (Or.inl rfl)) (YS (Ym (i := 10) sc_law.nd rfl (Or.inl rfl)) Ur))) (Zi (ZK (Zu G_set_alarm (hr.mono (by decide)) (by rfl) T.f_set_alarm T.kp_set_alarm T.B_set_alarm .nil ZC (Za (pv 11) (Za Yc (Za (pv 12) (Za (pv 10) Zf)))))))) ?_
       have l8 := L.l8
       refine ⟨_, rfl, la, rfl, ⟨_, SqL.of (b7.same _ _ hqa)⟩, Tj (xs := qa.map fun q => V.ref q.1) (fun j σ Hj => ∃ v2 y10 y12, σ = [some (.ref l), some (.int S), some (.int n), some (.ref x), some (.ref q), some (.ref la), some (.ref lt), x7, x8, x9, y10, some (.ref x2), y12] ∧ BookAt (clOf a) H6 Hj x2 v2 ∧ v2.now = 0 ∧ v2.next = j ∧ v2.wait = fnA (as.take j)) ⟨newV S n, _, _, rfl, b7, rfl, rfl, ?_⟩ ?_ ?_ ?_⟩
       · funext m'
         unfold fnA
         simp
       · rintro j σ Hj hj ⟨v2, y10, y12, rfl, bj, _⟩
         exact SqL.of (bj.same _ _ hqa)
       · rintro j y σ Hj hy ⟨v2, y10, y12, rfl, bj, e1, e2, e3⟩
         rw [List.getElem?_map] at hy
         obtain ⟨qq, hqq, rfl⟩ := Option.map_eq_some_iff.mp hy
         have tq := bj.same _ _ (hta qq (List.mem_of_getElem? hqq))
         have hp : as[j]? = some qq.2 := by rw [← ea, List.getElem?_map, hqq]; rfl
         have hm := List.mem_of_getElem? hp
         have hd := L.du _ hm
         have hj8 : j < as.length := (List.getElem?_eq_some_iff.mp hp).1
         refine ⟨_, _, rfl, SqT.of tq, rfl, _, _, rfl, _, _, rfl, rfl, ?_⟩
         refine ⟨_, rfl, _, rfl, _, rfl, H6, x2, v2, "x", qq.2.1, qq.2.2, rfl, bj, Xs (by omega) (by omega), (fun s e => by have := L.st _ hm s e; exact Xs (by omega) (by omega)), (by omega), (fun z => by
           rcases z with z | ⟨s, e, z⟩
           · omega
           · have := L.st _ hm s e
             omega), fun _ _ H' b' => ?_⟩
         refine ⟨_, _, _, rfl, b', e1, by show v2.next + 1 = _; rw [e2]; rfl, ?_⟩
         show fput v2.wait v2.next _ = _
         have tk : as.take (j + 1) = as.take j ++ [(qq.2.1, qq.2.2)] := by rw [List.take_add_one, hp]; rfl
         have lj : (as.take j).length = j := by rw [List.length_take]; omega
         rw [e3, e2, tk, ← fnA_snoc, lj]
       · rintro σ Hj ⟨v2, y10, y12, rfl, bj, e1, e2, e3⟩
         rw [List.length_map, la8, List.take_length] at e3
         refine Xy (ZA (pe_cmpR (op_eqD hr.units) (Zu G_pass_ticks (hr.mono (by decide)) (by rfl) T.f_pass_ticks T.kp_pass_ticks T.B_pass_ticks .nil ZC (Za (pv 11) (Za (Yy hu (pv 4) Yc (fun _ _ => rfl)) Zf))) (pv 6) (ZG _))) ?_
         have nw := L.lo.now
         have hj24 := L.lo.j24
         refine ⟨_, rfl, _, rfl, _, _, rfl, (w6.up bj.same).gNow, H6, x2, v2, v.now, rfl, bj, Xs (by omega) (by omega), (fun z => absurd z (by omega)), fun _ => ⟨by rw [e1, e3, Int.zero_add]; exact few1, fun H8 H80 lr2 rs g s8 hlr2 r8 b8 rn8 => ?_⟩⟩
         rw [e1, e3, Int.zero_add] at rn8
         obtain ⟨er, _⟩ := rn8.unique L.rn
         subst er
         refine ⟨_, rfl, _, _, (r8.same b8.same).den, (tl6.same (s8.trans b8.same)).den, shp, shp, ?_⟩
         rw [eqv_self shp]
         exact k _
end
end Tk
end
section
namespace Tk
open PySem L2
theorem law_end {P : Program} {w : World} {K : W.Frag} {mg : Str → Option Value} {fa : Addr} (TT : ∃ a, Txt K mg a) (hmg : mg "law" = some (.ref fa)) :
   ∃ fd : FuncData, (∀ (s : Shared) (u : Value), BindsTo s fd ⟨[u], []⟩ [("_law_script", u)]) ∧ ∀ base : Heap, K.In base → base.Ns mainGlobals mg → FnOk P w K mg base (CXe P w) 40 fa fd ["_law_script"] (spLaw K) := by
 obtain ⟨a, T⟩ := TT
 have e := T.f_law
 rw [hmg] at e
 have e2 : fa = a.f_law := by injection e with e; injection e
 subst e2
 refine ⟨a.fd_law, fun s u => ?_, fun base _ _ => (ok_law T).mono (by decide)⟩
 obtain ⟨oc, od, kV, doc, pm, an, cdv, ct, osl, efd, lk, hcd⟩ := T.F_law.ex
 rw [efd]
 exact .of_eq rfl
theorem walk {l : W.OpenLaw} {q : Program} {loose : List Str} {XP : (Str → Option Value) → Heap → Prop} {YP : World → Heap → Prop} {d : DefRec} {K : Params → W.Frag} {k : Nat} (hn : l.most = some 63) (hdf : d.params.defaults = []) (hr : Room k callerA)
   (hY : ∀ (w : World) (h : Heap), YP w h → (K w.params).In h)
   (F : ∀ (w : World) (mg : Str → Option Value) (fa : Addr) (h : Heap), (K w.params).In h → h.Ns mainGlobals mg → mg d.name = some (.ref fa) →
     ∃ fd : FuncData, (∀ (s : Shared) (u : Value), BindsTo s fd ⟨[u], []⟩ [("_law_script", u)]) ∧ ∀ base : Heap, (K w.params).In base → base.Ns mainGlobals mg → FnOk l.prog w (K w.params) mg base (CXe l.prog w) k fa fd ["_law_script"] (spLaw (K w.params))) :
   W.WalkO q loose XP YP l.row.toRowW d [] (fun f vs => PySem.call f vs) :=
 L2.walk_of (n := 63) (k := k) (x := "_law_script") (CX := fun w => CXe l.prog w) (sp := fun w => spLaw (K w.params)) hn (by decide) hdf hr hY F (fun _ _ a ns hl _ hS => ⟨a, ns, rfl, hS, hl, fun _ => rfl⟩) fun _ _ _ _ _ z => CXe.no z
end Tk
end
open PySem PySem.W PyProof.Rows
def PySem.W.Fast.tw13681606658842907060 : Nat := 0
def PySem.W.Fast.tw14097127187879789026 : Nat := 0
def PySem.W.Fast.tw14141298747472557930 : Nat := 0
def PySem.W.Fast.tw14759053755890762607 : Nat := 0
def PySem.W.Fast.tw15110224375857171545 : Nat := 0
def PySem.W.Fast.tw15409006649391049559 : Nat := 0
def PySem.W.Fast.tw16174387147292687262 : Nat := 0
def PySem.W.Fast.tw17048421108347045445 : Nat := 0
def PySem.W.Fast.tw1872926651079041519 : Nat := 0
def PySem.W.Fast.tw4263759430877205829 : Nat := 0
def PySem.W.Fast.tw5572106592409234994 : Nat := 0
def PySem.W.Fast.tw6168843569674585001 : Nat := 0
def PySem.W.Fast.tw7127066011367318025 : Nat := 0
def PySem.W.Fast.tw8097662961306129790 : Nat := 0
def PySem.W.Fast.tw8116814801546377511 : Nat := 0
def PySem.W.Fast.tw9089721666794146573 : Nat := 0
set_option maxRecDepth 100000 in
set_option maxHeartbeats 0 in
theorem PySem.Challenge.cw_tickbook_k20_whole_just_then_holds : PySem.Challenge.rw_tickbook_k20_whole_just_then.Holds := by
  w_on; o_law; k_head; (case hw => w_witness2)
  k_fill
  refine Tk.walk (k := 40) (l := PySem.Challenge.rw_tickbook_k20_whole_just_then) rfl rfl ⟨rfl, by decide, by decide⟩ (fun w h Y => PySem.W.kIn_of Y) ?F
  case F =>
    intro w mg fa h KX G hmg
    have TT : ∃ a, Tk.Txt (L2.KOf KX) mg a := by
      dsimp only [L2.KOf]
      refine' Tk.txt_mk KX G ?e1 ?e2 ?e3 ?e4 ?e5 ?e6 ?e7 ?e8 ?e9 ?e10 ?e11 ?e12 ?e13 ?e14 ?e15 ?e16 ?e17 ?e18 ?e19 ?e20 ?e21 ?e22 ?e23 ?e24 ?e25 ?e26 ?e27 ?e28 ?e29 ?e30 ?e31 ?e32 ?e33 ?e34 ?e35 ?e36 ?e37 ?e38 ?e39 ?e40 ?e41 ?e42 ?e43 ?e44 ?e45 ?e46 ?e47 ?e48 ?e49 ?e50 ?e51 ?e52 ?e53 ?e54 ?e55 ?e56 ?e57 ?e58 ?e59 ?e60 ?e61 ?e62 ?e63 ?e64 ?e65 ?e66 ?e67 ?e68 ?e69 ?e70 ?e71 ?e72 ?e73 ?e74 ?e75 ?e76 ?e77 ?e78 ?e79 ?e80 ?e81 ?e82 ?e83 ?e84 ?e85 ?e86 ?e87 ?e88 ?e89 ?e90 ?e91 ?e92 ?e93 ?e94 ?e95 ?e96 ?e97 ?e98 ?e99 ?e100 ?e101 ?e102 ?e103 ?e104 ?e105 ?e106 ?e107 ?e108 ?e109 ?e110 ?e111 ?e112 ?e113 ?e114 ?e115 ?e116 ?e117 ?e118 ?e119 ?e120 ?e121 ?e122 ?e123 ?e124 ?e125 ?e126 ?e127 ?e128 ?e129 ?e130 ?e131 ?e132 ?e133 ?e134 ?e135 ?e136 ?e137 ?e138 ?e139 ?e140 ?e141 ?e142 ?e143 ?e144 ?e145 ?e146 ?e147 ?e148 ?e149 ?e150 ?e151 ?e152 ?e153 ?e154 ?e155 ?e156 ?e157 ?e158 ?e159 ?e160 ?e161 ?e162 ?e163 ?e164 ?e165 ?e166 ?e167 ?e168 ?e169 ?e170 ?e171 ?e172 ?e173 ?e174 ?e175 ?e176 ?e177 ?e178 ?e179 ?e180 ?e181 ?e182 ?e183 ?e184 ?e185 ?e186 ?e187 ?e188 ?e189 ?e190 ?e191 ?e192 ?e193 ?e194 ?e195 ?e196 ?e197 ?e198 ?e199 ?e200 ?e201 ?e202 ?e203 ?e204 ?e205 ?e206 ?e207 ?e208 ?e209 ?e210 ?e211 ?e212 ?e213 ?e214 ?e215 ?e216 ?e217 ?e218 ?e219 ?e220 ?e221 ?e222 ?e223 ?e224 ?e225 ?e226 ?e227 ?e228 ?e229 ?e230 ?e231 ?e232 ?e233 ?e234 ?e235 ?e236 ?e237 ?e238 ?e239 ?e240 ?e241 ?e242 ?e243 ?e244 ?e245 ?e246 ?e247 ?e248 ?e249 ?e250 ?e251 ?e252 ?e253 ?e254 ?e255 ?e256 ?e257 ?e258 ?e259 ?e260 ?e261 ?e262 ?e263 ?e264 ?e265 ?e266 ?e267 ?e268 ?e269 ?e270 ?e271
      case e1|e2|e3|e4|e5|e6|e7|e8|e9|e10|e11|e12|e13|e14|e15|e16|e17|e18|e19|e20|e21|e22|e23|e24|e25|e26|e27|e28|e29|e30|e31|e32|e33|e34|e35 => k_is
      case e36 => k_exc
      case e37|e38|e39|e40|e41|e42|e43|e44|e45|e46 => k_is
      case e47 => k_exc
      case e48|e49|e50|e51|e52|e53|e54|e55|e56|e57 => k_is
      case e58 => k_exc
      case e59|e60|e61|e62|e63|e64|e65|e66|e67|e68 => k_is
      case e69 => k_exc
      case e70|e71|e72|e73|e74|e75|e76|e77|e78|e79|e80|e81|e82|e83|e84|e85|e86|e87|e88|e89|e90|e91|e92|e93|e94|e95|e96|e97|e98|e99|e100|e101|e102|e103|e104|e105|e106|e107|e108|e109|e110|e111|e112|e113|e114|e115|e116|e117|e118|e119|e120|e121|e122|e123|e124|e125|e126|e127|e128|e129|e130|e131|e132|e133|e134|e135|e136|e137|e138|e139|e140|e141|e142|e143|e144|e145|e146|e147|e148|e149|e150|e151|e152|e153|e154|e155|e156|e157|e158|e159|e160|e161|e162|e163|e164|e165|e166|e167|e168|e169|e170|e171|e172|e173|e174|e175|e176|e177|e178|e179|e180|e181|e182|e183|e184|e185|e186|e187|e188|e189|e190|e191|e192|e193|e194|e195|e196|e197|e198|e199|e200|e201|e202|e203|e204|e205|e206|e207|e208|e209|e210|e211|e212|e213|e214|e215|e216|e217|e218|e219|e220|e221|e222|e223|e224|e225|e226|e227|e228|e229|e230|e231|e232|e233|e234|e235|e236|e237|e238|e239|e240|e241|e242|e243|e244|e245|e246|e247|e248|e249|e250|e251|e252|e253|e254|e255|e256|e257|e258|e259|e260|e261|e262|e263|e264|e265|e266|e267|e268|e269|e270|e271 => k_is
    exact Tk.law_end TT hmg
